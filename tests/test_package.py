"""The interface as the document lists it, and the rules of the language that a glance cannot keep."""

import ast
import inspect
import pathlib
import unittest
import warnings

import millrolls.books
import millrolls.days
import millrolls.errors
import millrolls.gaps
import millrolls.journal
import millrolls.knives
import millrolls.linear
import millrolls.mills
import millrolls.patterns
import millrolls.plans
import millrolls.ranges
import millrolls.rationals
import millrolls.rounded
import millrolls.sheets
import millrolls.stacks
import millrolls.texts
import millrolls.trees
import millrolls.weights

FOLDER = pathlib.Path(__file__).resolve().parent.parent / "millrolls"

# What the document lists under each file: names and the arguments that it names.
INTERFACE = {
    millrolls.errors: {
        "MillrollsError": None, "LineError": ["line"], "PowerCut": ["written"],
        "BadPattern": None, "BadOrder": None, "ShutError": None,
    },
    millrolls.rationals: {
        "common_divisor": ["first", "second"], "made": ["top", "bottom"],
        "added": ["first", "second"], "taken": ["first", "second"],
        "times": ["first", "second"], "divided": ["first", "second"],
        "is_less": ["first", "second"], "floor_of": ["one"], "ceiling_of": ["one"],
    },
    millrolls.mills: {
        "Mill": ["rolls", "widths", "knives"], "is_mill": ["mill"], "is_order": ["mill", "order"],
    },
    millrolls.texts: {"format_mill": ["mill", "orders"], "parse_mill": ["text"]},
    millrolls.patterns: {
        "used": ["mill", "pattern"], "trim": ["mill", "pattern"], "is_pattern": ["mill", "pattern"],
        "is_maximal": ["mill", "pattern"], "patterns": ["mill", "kind"], "maximal": ["mill"],
    },
    millrolls.plans: {
        "plan_counts": ["mill", "plan"], "plan_cost": ["mill", "plan"], "plan_trim": ["mill", "plan"],
        "is_plan": ["mill", "plan"], "meets": ["mill", "order", "plan"], "counted": ["cuts"],
        "least_cost": ["mill", "order"], "least_plan": ["mill", "order"],
    },
    millrolls.weights: {
        "are_weights": ["mill", "weights"], "worth": ["weights", "counts"], "bound": ["weights", "order"],
    },
    millrolls.linear: {"best_weights": ["mill", "order"], "fractional_plan": ["mill", "order"]},
    millrolls.rounded: {"rounded_up": ["mill", "order"], "rounded_down": ["mill", "order"]},
    millrolls.ranges: {"tight": ["mill", "most"], "ranged_plan": ["mill", "most", "low", "high"]},
    millrolls.trees: {
        "tree_paper": ["mill", "order"], "verify_tree": ["mill", "order", "least", "paper"],
    },
    millrolls.gaps: {
        "fraction_cost": ["mill", "order"], "gap": ["mill", "order"], "gaps_within": ["mill", "most"],
        "single_costs": ["mill", "place"], "single_cost": ["costs", "many"], "single_gaps": ["mill", "place"],
    },
    millrolls.sheets: {
        "best_sheet": ["pieces", "width", "height"], "tree_worth": ["pieces", "width", "height", "tree"],
        "tree_counts": ["pieces", "tree"], "sheet_paper": ["pieces", "width", "height"],
        "verify_sheet": ["pieces", "width", "height", "most", "paper"],
    },
    millrolls.stacks: {
        "open_stacks": ["cuts", "done", "place"], "most_open": ["cuts", "order"], "fewest_open": ["cuts"],
        "stack_paper": ["cuts"], "verify_stacks": ["cuts", "least", "paper"],
    },
    millrolls.knives: {
        "changes": ["one", "other"], "total_changes": ["cuts", "order"], "fewest_changes": ["cuts"],
    },
    millrolls.days: {"least_days": ["mill", "most", "orders"], "run_days": ["mill", "orders", "plans"]},
    millrolls.books: {"Book": ["mill"]},
    millrolls.journal: {
        "record_of": ["deed"], "recovered": ["mill", "octets"], "Device": ["octets", "power"],
        "JournaledBook": ["book", "device"], "opened": ["mill", "octets", "power"],
    },
}

# The methods of each class, and the arguments behind the object's own.
METHODS = {
    millrolls.books.Book: {
        "order": ["counts"], "cut": ["pattern", "many"], "totals": [], "lacking": [], "spent": [], "undo": [],
        "branch": [],
    },
    millrolls.journal.Device: {"append": ["octet"]},
    millrolls.journal.JournaledBook: {"perform": ["deed"]},
}


def listed():
    return [(module, name, arguments)
            for module, names in INTERFACE.items() for name, arguments in names.items()]


class Interface(unittest.TestCase):
    def test_each_name_stands_in_its_own_file(self):
        for module, name, _ in listed():
            self.assertEqual(getattr(module, name).__module__, module.__name__, name)

    def test_each_takes_the_arguments_that_are_listed(self):
        for module, name, arguments in listed():
            if arguments is not None:
                told = list(inspect.signature(getattr(module, name)).parameters)
                self.assertEqual(told, arguments, name)

    def test_each_method_stands_in_its_own_class(self):
        for owner, methods in METHODS.items():
            for name, arguments in methods.items():
                self.assertIn(name, vars(owner))
                told = list(inspect.signature(vars(owner)[name]).parameters)
                self.assertEqual(told[1:], arguments, name)

    def test_each_field_is_set_on_each_object(self):
        mill = millrolls.mills.Mill([(9, 1)], [3], 2)
        book = millrolls.books.Book(mill)
        device = millrolls.journal.Device([], 1)
        for one, fields in (
            (mill, {"rolls", "widths", "knives"}), (book, {"deeds"}), (device, {"octets", "power"}),
            (millrolls.journal.JournaledBook(book, device), {"book", "device", "shut"}),
            (millrolls.errors.LineError(1), {"line"}), (millrolls.errors.PowerCut(1), {"written"}),
        ):
            self.assertTrue(fields <= set(vars(one)), one)

    def test_arguments_can_be_given_by_their_names(self):
        self.assertEqual(millrolls.rationals.common_divisor(first=4, second=6), 2)
        self.assertEqual(millrolls.rationals.made(top=4, bottom=6), (2, 3))
        self.assertEqual(millrolls.rationals.floor_of(one=(7, 2)), 3)
        self.assertEqual(millrolls.rationals.ceiling_of(one=(7, 2)), 4)
        mill = millrolls.mills.Mill(rolls=[(9, 1)], widths=[3], knives=2)
        self.assertIs(millrolls.mills.is_mill(mill=mill), True)
        self.assertIs(millrolls.mills.is_order(mill=mill, order=(1,)), True)


class Language(unittest.TestCase):
    def files(self):
        found = sorted(FOLDER.rglob("*.py"))
        self.assertTrue(found)
        return found

    def test_the_folder_holds_python_files_alone(self):
        for path in FOLDER.iterdir():
            if path.name != "__pycache__":
                self.assertEqual(path.suffix, ".py", path)

    def test_characters_and_sizes(self):
        for path in self.files():
            text = path.read_bytes().decode("ascii")
            lines = text.split("\n")
            self.assertLessEqual(len(lines), 399, path)
            self.assertLessEqual(max(len(line) for line in lines), 120, path)
            self.assertTrue(all(" " <= sign <= "~" or sign == "\n" for sign in text), path)

    def test_python_gives_no_warning(self):
        for path in self.files():
            with warnings.catch_warnings():
                warnings.simplefilter("error")
                compile(path.read_text(), str(path), "exec")

    def test_a_function_has_at_most_40_lines(self):
        for path in self.files():
            for node in ast.walk(ast.parse(path.read_text())):
                if isinstance(node, ast.FunctionDef):
                    self.assertLessEqual(node.end_lineno - node.lineno + 1, 40, (path, node.name))

    def test_imports_are_from_the_package_or_the_few_allowed_modules(self):
        for path in self.files():
            for node in ast.walk(ast.parse(path.read_text())):
                self.assertNotIsInstance(node, ast.Import, path)
                if isinstance(node, ast.ImportFrom):
                    root = node.module.split(".")[0]
                    self.assertEqual(node.level, 0, path)
                    self.assertIn(root, ("millrolls", "math", "heapq", "itertools", "collections"))


if __name__ == "__main__":
    unittest.main()
