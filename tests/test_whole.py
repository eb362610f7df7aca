"""Points 1 and 2 over the whole program: what is passed in stays as it was, what is returned is new."""

import inspect
import unittest
from copy import deepcopy

from millrolls.books import Book
from millrolls.days import least_days, run_days
from millrolls.errors import (
    BadOrder, BadPattern, LineError, MillrollsError, PowerCut, ShutError,
)
from millrolls.gaps import fraction_cost, gap, gaps_within, single_cost, single_costs, single_gaps
from millrolls.journal import Device, JournaledBook, opened, record_of, recovered
from millrolls.knives import changes, fewest_changes, total_changes
from millrolls.linear import best_weights, fractional_plan
from millrolls.mills import Mill, is_mill, is_order
from millrolls.patterns import is_maximal, is_pattern, maximal, patterns, trim, used
from millrolls.plans import counted, is_plan, least_cost, least_plan, meets, plan_cost, plan_counts, plan_trim
from millrolls.ranges import ranged_plan, tight
from millrolls.rationals import added, ceiling_of, common_divisor, divided, floor_of, is_less, made, taken, times
from millrolls.rounded import rounded_down, rounded_up
from millrolls.sheets import best_sheet, sheet_paper, tree_counts, tree_worth, verify_sheet
from millrolls.stacks import fewest_open, most_open, open_stacks, stack_paper, verify_stacks
from millrolls.texts import format_mill, parse_mill
from millrolls.trees import tree_paper, verify_tree
from millrolls.weights import are_weights, bound, worth
from test_package import METHODS, listed

CUTS = [(0, (0, 3)), (0, (1, 1)), (0, (2, 0)), (1, (0, 1))]
PIECES = [(2, 1, 3), (1, 3, 4)]
TREE = ("across", 1, ("piece", 1), ("piece", 0))
WEIGHTS = [(2, 1), (4, 3)]
ORDER_RECORD = [3, 1, 3, 2, 6, 170]


def the_mill():
    return Mill([(10, 4), (5, 3)], [5, 3], 3)


def the_plan():
    return [((0, (1, 1)), 2), ((0, (2, 0)), 1)]


def the_book():
    book = Book(the_mill())
    book.order((3, 2))
    book.cut((0, (2, 0)), 1)
    return book


# For each name, a function that makes arguments anew.
CALLS = {
    MillrollsError: lambda: (),
    LineError: lambda: (3,),
    PowerCut: lambda: (3,),
    BadPattern: lambda: (),
    BadOrder: lambda: (),
    ShutError: lambda: (),
    common_divisor: lambda: (4, 6),
    made: lambda: (4, 6),
    added: lambda: ((1, 2), (1, 3)),
    taken: lambda: ((1, 2), (1, 3)),
    times: lambda: ((1, 2), (1, 3)),
    divided: lambda: ((1, 2), (1, 3)),
    is_less: lambda: ((1, 2), (1, 3)),
    floor_of: lambda: ((7, 2),),
    ceiling_of: lambda: ((7, 2),),
    Mill: lambda: ([(10, 4), (5, 3)], [5, 3], 3),
    is_mill: lambda: (the_mill(),),
    is_order: lambda: (the_mill(), (3, 2)),
    format_mill: lambda: (the_mill(), [(3, 2), (0, 0)]),
    parse_mill: lambda: ("knives 3\nroll 10 4\nroll 5 3\nwidths 5 3\norder 3 2\norder 0 0",),
    used: lambda: (the_mill(), (0, (1, 1))),
    trim: lambda: (the_mill(), (0, (1, 1))),
    is_pattern: lambda: (the_mill(), (0, (1, 1))),
    is_maximal: lambda: (the_mill(), (0, (1, 1))),
    patterns: lambda: (the_mill(), 0),
    maximal: lambda: (the_mill(),),
    plan_counts: lambda: (the_mill(), the_plan()),
    plan_cost: lambda: (the_mill(), the_plan()),
    plan_trim: lambda: (the_mill(), the_plan()),
    is_plan: lambda: (the_mill(), the_plan()),
    meets: lambda: (the_mill(), (3, 2), the_plan()),
    counted: lambda: (CUTS[::-1] + CUTS,),
    least_cost: lambda: (the_mill(), (3, 2)),
    least_plan: lambda: (the_mill(), (3, 2)),
    are_weights: lambda: (the_mill(), list(WEIGHTS)),
    worth: lambda: (list(WEIGHTS), (3, 2)),
    bound: lambda: (list(WEIGHTS), (3, 2)),
    best_weights: lambda: (the_mill(), (3, 2)),
    fractional_plan: lambda: (the_mill(), (3, 2)),
    rounded_up: lambda: (the_mill(), (3, 2)),
    rounded_down: lambda: (the_mill(), (3, 2)),
    tight: lambda: (the_mill(), 2),
    ranged_plan: lambda: (the_mill(), 5, (3, 2), (4, 3)),
    tree_paper: lambda: (the_mill(), (3, 2)),
    verify_tree: lambda: (the_mill(), (3, 2), 11, tree_paper(the_mill(), (3, 2))),
    fraction_cost: lambda: (the_mill(), (3, 2)),
    gap: lambda: (the_mill(), (3, 2)),
    gaps_within: lambda: (the_mill(), 3),
    single_costs: lambda: (the_mill(), 0),
    single_cost: lambda: (([0, 3, 4], (2, 4)), 9),
    single_gaps: lambda: (the_mill(), 1),
    best_sheet: lambda: (list(PIECES), 3, 3),
    tree_worth: lambda: (list(PIECES), 3, 3, TREE),
    tree_counts: lambda: (list(PIECES), TREE),
    sheet_paper: lambda: (list(PIECES), 3, 3),
    verify_sheet: lambda: (list(PIECES), 3, 3, 13, sheet_paper(PIECES, 3, 3)),
    open_stacks: lambda: (list(CUTS), [0], 1),
    most_open: lambda: (list(CUTS), [2, 0, 1, 3]),
    fewest_open: lambda: (list(CUTS),),
    stack_paper: lambda: (list(CUTS),),
    verify_stacks: lambda: (list(CUTS), 2, stack_paper(CUTS)),
    changes: lambda: (CUTS[0], CUTS[1]),
    total_changes: lambda: (list(CUTS), [2, 0, 1, 3]),
    fewest_changes: lambda: (list(CUTS),),
    least_days: lambda: (the_mill(), 2, [(1, 0), (2, 2), (0, 0)]),
    run_days: lambda: (the_mill(), [(1, 0), (2, 2)], [the_plan(), []]),
    Book: lambda: (the_mill(),),
    Book.order: lambda: (the_book(), (3, 2)),
    Book.cut: lambda: (the_book(), (0, (1, 1)), 2),
    Book.totals: lambda: (the_book(),),
    Book.lacking: lambda: (the_book(),),
    Book.spent: lambda: (the_book(),),
    Book.undo: lambda: (the_book(),),
    Book.branch: lambda: (the_book(),),
    record_of: lambda: (("cut", (0, (2, 0)), 7),),
    recovered: lambda: (the_mill(), ORDER_RECORD * 2 + [3]),
    Device: lambda: (list(ORDER_RECORD), 5),
    Device.append: lambda: (Device([1, 2], 5), 3),
    JournaledBook: lambda: (the_book(), Device([], 5)),
    JournaledBook.perform: lambda: (JournaledBook(the_book(), Device([], 99)), ("order", (3, 2))),
    opened: lambda: (the_mill(), ORDER_RECORD * 2 + [3], 5),
}

# These change the object that they are called on, and nothing else.
CHANGERS = (Book.order, Book.cut, Book.undo, Device.append, JournaledBook.perform)


def picture(one):
    """Return what one value holds, also where it is an object of the package."""
    if isinstance(one, (list, tuple)):
        return (type(one).__name__, [picture(part) for part in one])
    if hasattr(one, "__dict__"):
        return (type(one).__name__, {name: picture(part) for name, part in vars(one).items()})
    return one


def lists_of(one):
    """Return all lists and dicts within one value, in the fields of the package's objects, too."""
    if isinstance(one, dict):
        return [one] + [found for part in one.values() for found in lists_of(part)]
    if isinstance(one, (list, tuple)):
        return ([one] if isinstance(one, list) else []) + [found for part in one for found in lists_of(part)]
    if hasattr(one, "__dict__"):
        return [found for part in vars(one).values() for found in lists_of(part)]
    return []


def numbers_of(one):
    return [id(found) for found in lists_of(one)]


class Whole(unittest.TestCase):
    def test_each_name_is_called(self):
        names = [getattr(module, name) for module, name, _ in listed()]
        names += [vars(owner)[name] for owner, methods in METHODS.items() for name in methods]
        self.assertEqual(len(names), len(CALLS))
        self.assertTrue(all(name in CALLS for name in names))

    def test_what_is_passed_in_stays_as_it_was(self):
        for name, arguments in CALLS.items():
            passed = arguments()
            behind = passed[1:] if name in CHANGERS else passed
            before = picture(behind)
            name(*passed)
            name(*passed)
            self.assertEqual(picture(behind), before, name)

    def test_what_is_returned_is_the_same_each_time(self):
        for name, arguments in CALLS.items():
            if name not in CHANGERS:
                passed = arguments()
                first = picture(name(*passed))
                self.assertEqual(picture(name(*passed)), first, name)

    def test_what_is_returned_twice_is_not_the_same_object(self):
        for name, arguments in CALLS.items():
            # A journaled book has the book and the device that it is given.
            if name is not JournaledBook:
                passed = arguments()
                first, second = name(*passed), name(*passed)
                numbers = numbers_of(first) + numbers_of(second) + numbers_of(passed)
                self.assertEqual(len(numbers), len(set(numbers)), name)

    def test_what_is_done_with_an_answer_changes_no_other_answer(self):
        for name, arguments in CALLS.items():
            if name not in CHANGERS and name is not JournaledBook:
                passed = arguments()
                first = name(*passed)
                told = picture(first)
                for found in lists_of(first):
                    found.clear()
                self.assertEqual(picture(name(*passed)), told, name)

    def test_several_things_are_lists_unless_told(self):
        for name in (
            patterns, maximal, counted, least_plan, best_weights, fractional_plan, rounded_up, rounded_down, tight,
            ranged_plan, tree_paper, gaps_within, tree_counts, sheet_paper, stack_paper, run_days, record_of,
        ):
            self.assertIs(type(name(*CALLS[name]())), list, name)
        for name in (
            made, added, taken, times, divided, parse_mill, plan_counts, worth, fraction_cost, single_costs,
            single_gaps, best_sheet, fewest_open, fewest_changes, least_days, recovered, Book.order, Book.cut,
            Book.totals, Book.lacking,
        ):
            self.assertIs(type(name(*CALLS[name]())), tuple, name)

    def test_answers_of_true_or_false(self):
        for name in (
            is_less, is_mill, is_order, is_pattern, is_maximal, is_plan, meets, are_weights, verify_tree, verify_sheet,
            verify_stacks, Book.undo,
        ):
            self.assertIs(type(name(*CALLS[name]())), bool, name)

    def test_numbers_are_integers(self):
        for name in (
            common_divisor, floor_of, ceiling_of, used, trim, plan_cost, plan_trim, least_cost, bound, gap, single_cost,
            tree_worth, open_stacks, most_open, changes, total_changes, Book.spent,
        ):
            self.assertIs(type(name(*CALLS[name]())), int, name)


class Errors(unittest.TestCase):
    def assert_raises(self, error, changed, call):
        before = picture(changed)
        with self.assertRaises(error) as caught:
            call()
        self.assertIs(type(caught.exception), error)
        self.assertIsInstance(caught.exception, (MillrollsError, ValueError))
        self.assertEqual(picture(changed), before)

    def test_an_error_changes_nothing(self):
        book = the_book()
        self.assert_raises(BadOrder, book, lambda: book.order((100, 0)))
        self.assert_raises(BadPattern, book, lambda: book.cut((0, (0, 0)), 1))
        self.assert_raises(BadPattern, book, lambda: book.cut((0, (1, 0)), 256))
        device = Device([1, 2], 0)
        self.assert_raises(PowerCut, device, lambda: device.append(3))
        journaled = JournaledBook(the_book(), Device([], 3))
        self.assert_raises(BadOrder, journaled, lambda: journaled.perform(("order", (1,))))
        self.assert_raises(BadPattern, journaled, lambda: journaled.perform(("cut", (0, (1, 0)), 0)))
        with self.assertRaises(PowerCut):
            journaled.perform(("order", (1, 1)))
        self.assert_raises(ShutError, journaled, lambda: journaled.perform(("order", (1, 1))))
        lines = ["knives 3", "roll 10 4", "widths 11"]
        self.assert_raises(LineError, lines, lambda: parse_mill("\n".join(lines)))

    def test_no_error_is_an_instance_of_another_one(self):
        kinds = [BadOrder(), BadPattern(), LineError(1), PowerCut(1), ShutError()]
        for one in kinds:
            self.assertIsInstance(one, MillrollsError)
            self.assertIsInstance(one, ValueError)
            self.assertEqual([isinstance(one, type(other)) for other in kinds].count(True), 1)


class Examples(unittest.TestCase):
    def test_no_default_arguments_and_no_further_ones(self):
        for name, arguments in CALLS.items():
            if inspect.isfunction(name):
                told = inspect.signature(name).parameters.values()
                self.assertTrue(all(one.default is inspect.Parameter.empty for one in told), name)
                self.assertEqual(len(told), len(arguments()))

    def test_from_a_text_to_a_journal(self):
        mill, orders = parse_mill("knives 3\nroll 10 4\nroll 5 3\nwidths 5 3\norder 3 2\norder 1 4")
        cost, plans = least_days(mill, 9, orders)
        journaled = opened(mill, [], 1000)
        for order, plan in zip(orders, plans):
            journaled.perform(("order", order))
            for pattern, many in plan:
                journaled.perform(("cut", pattern, many))
            self.assertEqual(journaled.book.lacking(), (0, 0))
        self.assertEqual(journaled.book.spent(), cost)
        again = opened(mill, deepcopy(journaled.device.octets), 0)
        self.assertEqual(again.book.deeds, journaled.book.deeds)
        self.assertEqual(verify_tree(mill, (4, 6), cost, tree_paper(mill, (4, 6))), cost == least_cost(mill, (4, 6)))


if __name__ == "__main__":
    unittest.main()
