"""Points 6 and 7: the text of a mill and orders, written, read, and the first wrong line told."""

import random
import unittest

from brute import some_mill, some_order, state
from millrolls.errors import LineError
from millrolls.mills import Mill
from millrolls.texts import format_mill, parse_mill

GOOD = ["knives 4", "roll 100 10", "roll 60 7", "widths 45 36 31", "order 97 61 0", "order 0 0 5"]


def changed(place, line):
    lines = list(GOOD)
    lines[place] = line
    return "\n".join(lines)


class Written(unittest.TestCase):
    def test_one_kind_one_width_no_order(self):
        self.assertEqual(format_mill(Mill([(100, 10)], [45], 4), []), "knives 4\nroll 100 10\nwidths 45")

    def test_one_kind_one_width_one_order(self):
        text = format_mill(Mill([(1, 1)], [1], 1), [(0,)])
        self.assertEqual(text, "knives 1\nroll 1 1\nwidths 1\norder 0")

    def test_three_kinds_and_six_widths(self):
        mill = Mill([(400, 100), (60, 7), (60, 7)], [60, 5, 4, 3, 2, 1], 12)
        text = "knives 12\nroll 400 100\nroll 60 7\nroll 60 7\nwidths 60 5 4 3 2 1"
        self.assertEqual(format_mill(mill, []), text)
        orders = [(0, 1, 2, 3, 4, 99), (0, 0, 0, 0, 0, 0), (10, 20, 30, 40, 50, 60)]
        told = text + "\norder 0 1 2 3 4 99\norder 0 0 0 0 0 0\norder 10 20 30 40 50 60"
        self.assertEqual(format_mill(mill, orders), told)

    def test_equal_orders_are_all_written_in_their_order(self):
        mill = Mill([(100, 10), (60, 7)], [45, 36, 31], 4)
        orders = [(97, 61, 0), (0, 0, 5)]
        self.assertEqual(format_mill(mill, orders), "\n".join(GOOD))
        self.assertEqual(format_mill(mill, orders + orders), "\n".join(GOOD + GOOD[4:]))

    def test_nothing_that_is_passed_in_changes(self):
        mill, orders = Mill([(100, 10), (60, 7)], [45, 36, 31], 4), [(97, 61, 0), (0, 0, 5)]
        format_mill(mill, orders)
        self.assertEqual(state(mill), ([(100, 10), (60, 7)], [45, 36, 31], 4))
        self.assertEqual(orders, [(97, 61, 0), (0, 0, 5)])


class TextCase(unittest.TestCase):
    def assert_read(self, text, rolls, widths, knives, orders):
        told = parse_mill(text)
        self.assertIs(type(told), tuple)
        mill, read = told
        self.assertIs(type(mill), Mill)
        self.assertEqual(state(mill), (rolls, widths, knives))
        self.assertEqual([type(mill.rolls), type(mill.widths), type(mill.knives)], [list, list, int])
        self.assertEqual([type(roll) for roll in mill.rolls], [tuple] * len(rolls))
        self.assertIs(type(read), list)
        self.assertEqual(read, orders)
        self.assertEqual([type(order) for order in read], [tuple] * len(orders))

    def assert_wrong(self, line, text):
        with self.assertRaises(LineError) as caught:
            parse_mill(text)
        self.assertEqual(caught.exception.line, line, text)


class Read(TextCase):
    def test_ordinary(self):
        rolls = [(100, 10), (60, 7)]
        self.assert_read("\n".join(GOOD), rolls, [45, 36, 31], 4, [(97, 61, 0), (0, 0, 5)])
        self.assert_read("\n".join(GOOD[:4]), rolls, [45, 36, 31], 4, [])
        self.assert_read("knives 1\nroll 1 1\nwidths 1", [(1, 1)], [1], 1, [])

    def test_what_was_written_is_read_as_the_same(self):
        rng = random.Random(61)
        for turn in range(300):
            mill = some_mill(rng, rng.randint(1, 6), widest=rng.choice([20, 400]), most_knives=12)
            orders = [some_order(rng, mill, 99) for _ in range(rng.randint(0, 4))]
            text = format_mill(mill, orders)
            self.assert_read(text, mill.rolls, mill.widths, mill.knives, orders)
            self.assertEqual(format_mill(*parse_mill(text)), text)

    def test_each_bound_is_read(self):
        widest = "knives 12\nroll 400 100\nroll 1 1\nroll 400 1\nwidths 400 1 2 3 4 5\norder 99 0 99 0 99 0"
        rolls = [(400, 100), (1, 1), (400, 1)]
        self.assert_read(widest, rolls, [400, 1, 2, 3, 4, 5], 12, [(99, 0, 99, 0, 99, 0)])

    def test_any_number_of_spaces(self):
        rng = random.Random(62)
        for turn in range(100):
            lines = []
            for line in GOOD:
                spaced = "".join(word + " " * rng.randint(1, 4) for word in line.split(" "))
                lines.append(" " * rng.randint(0, 3) + rng.choice([spaced, spaced.rstrip(" ")]))
            text = "\n".join(lines)
            self.assert_read(text, [(100, 10), (60, 7)], [45, 36, 31], 4, [(97, 61, 0), (0, 0, 5)])


class Places(TextCase):
    def test_each_kind_of_line_at_a_wrong_place(self):
        knives, roll, _, widths, order, _ = GOOD
        for place, lines in (
            (0, [roll, widths, order]),
            (1, [knives, widths, order]),
            (2, [knives, order]),
            (3, [knives, order]),
            (4, [knives, roll, widths]),
            (5, [knives, roll, widths]),
        ):
            for line in lines:
                self.assert_wrong(place + 1, changed(place, line))

    def test_a_line_that_makes_the_next_one_wrong(self):
        self.assert_wrong(4, changed(2, "widths 45 36 31"))
        self.assert_wrong(5, changed(3, "roll 50 5"))

    def test_a_line_of_no_kind(self):
        for place in range(len(GOOD)):
            for line in ("nothing 4", "4", "4 knives", "Roll 100 10", "rolls 100 10", "width 45 36 31", "orders 1 2 3"):
                self.assert_wrong(place + 1, changed(place, line))

    def test_a_line_is_missing(self):
        self.assert_wrong(1, "\n".join(GOOD[1:]))
        self.assert_wrong(2, "\n".join(GOOD[:1] + GOOD[3:]))
        self.assert_wrong(4, "\n".join(GOOD[:3] + GOOD[4:]))

    def test_no_roll(self):
        self.assert_wrong(2, "knives 4\nwidths 45 36 31")
        self.assert_wrong(2, "knives 4\norder 1")

    def test_a_fourth_roll(self):
        three = "knives 4\nroll 100 10\nroll 90 9\nroll 80 8\n"
        self.assert_read(three + "widths 45", [(100, 10), (90, 9), (80, 8)], [45], 4, [])
        self.assert_wrong(5, three + "roll 70 7\nwidths 45")
        self.assert_wrong(5, three + "roll 70 7")

    def test_a_line_a_second_time(self):
        self.assert_wrong(2, "\n".join(GOOD[:1] + GOOD))
        self.assert_wrong(5, "\n".join(GOOD[:4] + GOOD[3:]))
        self.assert_wrong(7, "\n".join(GOOD + GOOD[:1]))
        self.assert_wrong(7, "\n".join(GOOD + GOOD[1:2]))
        self.assert_wrong(7, "\n".join(GOOD + GOOD[3:4]))

    def test_an_empty_line_at_each_place(self):
        for empty in ("", " ", "    "):
            for place in range(len(GOOD) + 1):
                self.assert_wrong(place + 1, "\n".join(GOOD[:place] + [empty] + GOOD[place:]))

    def test_a_line_feed_behind_the_last_line(self):
        self.assert_wrong(7, "\n".join(GOOD) + "\n")
        self.assert_wrong(5, "\n".join(GOOD[:4]) + "\n")
        self.assert_wrong(1, "\n")

    def test_the_empty_text(self):
        self.assert_wrong(1, "")
        self.assert_wrong(1, "   ")

    def test_the_lines_end_ahead_of_the_widths(self):
        self.assert_wrong(2, "knives 4")
        self.assert_wrong(3, "knives 4\nroll 100 10")
        self.assert_wrong(4, "knives 4\nroll 100 10\nroll 90 9")
        self.assert_wrong(5, "knives 4\nroll 100 10\nroll 90 9\nroll 80 8")

    def test_the_first_of_several_wrong_lines(self):
        for first in range(len(GOOD)):
            lines = GOOD[:first] + ["wrong"] * (len(GOOD) - first)
            self.assert_wrong(first + 1, "\n".join(lines))
            lines = GOOD[:first] + [line + " x" for line in GOOD[first:]]
            self.assert_wrong(first + 1, "\n".join(lines))
        # The widths do not fit the rolls, but a roll ahead of them is wrong by itself.
        self.assert_wrong(3, "knives 4\nroll 100 10\nroll 0 7\nwidths 500\norder 100")
        self.assert_wrong(4, "knives 4\nroll 100 10\nroll 60 7\nwidths 500\norder 100")


class Words(TextCase):
    def test_a_word_too_few_or_too_many(self):
        for place in (0, 1, 2, 4, 5):
            self.assert_wrong(place + 1, changed(place, GOOD[place] + " 5"))
            self.assert_wrong(place + 1, changed(place, GOOD[place].rsplit(" ", 1)[0]))
            self.assert_wrong(place + 1, changed(place, GOOD[place].split(" ")[0]))
        self.assert_wrong(4, changed(3, "widths"))

    def test_the_name_is_a_word_of_its_own(self):
        for place, line in enumerate(GOOD):
            self.assert_wrong(place + 1, changed(place, line.replace(" ", "", 1)))
            self.assert_wrong(place + 1, changed(place, line.split(" ", 1)[1]))
            self.assert_wrong(place + 1, changed(place, line.upper()))
            self.assert_wrong(place + 1, changed(place, "x " + line))

    def test_numbers_that_are_not_as_they_must_be(self):
        wrong = [
            "04", "004", "00", "000", "0004", "1000", "0100", "9999", "-4", "+4", "--4", "-0", "4x", "x4", "x",
            "4.", "4.0", "4,", "0x4", "4e0", "1_0", "\t4", "4\t", "4\t5", "\xa04", "4\r", "\u0664", "\xb2", "\uff14",
            "4" * 5000, "'4'", "4-",
        ]
        for place, line in enumerate(GOOD):
            words = line.split(" ")
            for at in range(1, len(words)):
                for word in wrong:
                    now = words[:at] + [word] + words[at + 1:]
                    self.assert_wrong(place + 1, changed(place, " ".join(now)))

    def test_other_blanks_do_not_separate(self):
        for place, line in enumerate(GOOD):
            for blank in ("\t", "\r", "\x0b", "\x0c", "\xa0", "\u2003"):
                self.assert_wrong(place + 1, changed(place, line.replace(" ", blank)))
                self.assert_wrong(place + 1, changed(place, line + blank))
                self.assert_wrong(place + 1, changed(place, blank + line))

    def test_a_zero_alone_has_no_needless_zero(self):
        self.assert_read("knives 4\nroll 9 1\nwidths 9\norder 0", [(9, 1)], [9], 4, [(0,)])


class Bounds(TextCase):
    def assert_line(self, right, line, text):
        if right:
            parse_mill(text)
        else:
            self.assert_wrong(line, text)

    def test_knives(self):
        for knives in (0, 1, 2, 11, 12, 13, 99, 100, 999):
            self.assert_line(1 <= knives <= 12, 1, changed(0, f"knives {knives}"))

    def test_rolls(self):
        for place in (1, 2):
            for width in (0, 1, 2, 399, 400, 401, 999):
                # The other kind of rolls is wide enough for the widths.
                text = changed(place, f"roll {width} 10").replace("roll 60 7", "roll 100 10")
                self.assert_line(1 <= width <= 400, place + 1, text)
            for cost in (0, 1, 2, 99, 100, 101, 999):
                self.assert_line(1 <= cost <= 100, place + 1, changed(place, f"roll 100 {cost}"))

    def test_widths(self):
        for at in range(3):
            for width in (0, 1, 99, 100, 101, 400, 401, 999):
                words = ["widths", "45", "36", "31"]
                words[at + 1] = str(width)
                self.assert_line(1 <= width <= 100, 4, changed(3, " ".join(words)))

    def test_a_width_that_is_wider_than_the_widest_roll(self):
        for rolls in (["roll 50 5", "roll 40 4", "roll 30 3"], ["roll 30 99", "roll 40 98", "roll 50 1"]):
            for many in range(1, 4):
                widest = max(int(line.split(" ")[1]) for line in rolls[:many])
                for width in (29, 30, 31, 39, 40, 41, 49, 50, 51):
                    text = "\n".join(["knives 3"] + rolls[:many] + [f"widths 20 {width} 10"])
                    self.assert_line(width <= widest, many + 2, text)

    def test_two_equal_widths(self):
        self.assert_wrong(4, changed(3, "widths 45 36 45"))
        self.assert_wrong(4, changed(3, "widths 45 45 31"))
        self.assert_wrong(4, changed(3, "widths 45 31 31"))

    def test_how_many_widths(self):
        for many in range(9):
            widths = " ".join(str(width) for width in range(20, 20 + many))
            self.assert_line(1 <= many <= 6, 3, f"knives 3\nroll 90 9\nwidths {widths}")

    def test_counts(self):
        for at in range(3):
            for count in (0, 1, 98, 99, 100, 101, 999):
                words = ["order", "5", "6", "7"]
                words[at + 1] = str(count)
                self.assert_line(count <= 99, 5, changed(4, " ".join(words)))
                self.assert_line(count <= 99, 6, changed(5, " ".join(words)))

    def test_how_many_counts(self):
        for many in range(6):
            order = " ".join(["order"] + ["7"] * many)
            self.assert_line(many == 3, 5, changed(4, order))
            self.assert_line(many == 3, 6, changed(5, order))


if __name__ == "__main__":
    unittest.main()
