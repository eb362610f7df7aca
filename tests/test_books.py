"""Point 26: books."""

import random
import unittest

from brute import all_patterns, state
from millrolls.books import Book
from millrolls.errors import BadOrder, BadPattern
from millrolls.mills import Mill

MILL = Mill([(10, 4), (5, 3)], [5, 3], 3)
TWO = (0, (2, 0))
ONE = (1, (0, 1))


def seen(book):
    """Return all that a book tells."""
    return (list(book.deeds), book.totals(), book.lacking(), book.spent())


class BookCase(unittest.TestCase):
    def assert_book(self, book, deeds):
        """Hold that a book tells just what these deeds come to."""
        mill = book.mill
        ordered = [0 for _ in mill.widths]
        given = [0 for _ in mill.widths]
        cost = 0
        for deed in deeds:
            if deed[0] == "order":
                ordered = [one + more for one, more in zip(ordered, deed[1])]
            else:
                _, (kind, counts), many = deed
                given = [one + many * more for one, more in zip(given, counts)]
                cost += many * mill.rolls[kind][1]
        lacking = tuple(max(0, one - other) for one, other in zip(ordered, given))
        self.assertEqual(seen(book), (deeds, (tuple(ordered), tuple(given)), lacking, cost))
        self.assertEqual([type(row) for row in book.totals()], [tuple, tuple])
        self.assertEqual((type(book.deeds), type(book.totals()), type(book.lacking())), (list, tuple, tuple))
        return lacking


class Books(BookCase):
    def test_a_new_book(self):
        self.assert_book(Book(MILL), [])
        self.assertEqual(seen(Book(MILL)), ([], ((0, 0), (0, 0)), (0, 0), 0))

    def test_ordinary(self):
        book = Book(MILL)
        self.assertEqual(book.order((3, 2)), (3, 2))
        self.assertEqual(book.cut(TWO, 1), (1, 2))
        self.assertEqual(book.cut(ONE, 5), (1, 0))
        self.assertEqual(book.totals(), ((3, 2), (2, 5)))
        self.assertEqual(book.spent(), 4 + 5 * 3)
        # What was cut beyond the order is there for a later one.
        self.assertEqual(book.order((0, 4)), (1, 1))
        self.assertEqual(book.lacking(), (1, 1))
        self.assert_book(book, [("order", (3, 2)), ("cut", TWO, 1), ("cut", ONE, 5), ("order", (0, 4))])

    def test_cut_ahead_of_the_order(self):
        book = Book(MILL)
        self.assertEqual(book.cut(TWO, 3), (0, 0))
        self.assertEqual(book.order((7, 1)), (1, 1))

    def test_patterns_that_are_not_maximal(self):
        book = Book(MILL)
        book.order((2, 2))
        self.assertEqual(book.cut((0, (1, 0)), 1), (1, 2))
        self.assertEqual(book.cut((0, (0, 1)), 2), (1, 0))
        self.assertEqual(book.spent(), 12)

    def test_bounds(self):
        book = Book(MILL)
        self.assertEqual(book.order((0, 0)), (0, 0))
        self.assertEqual(book.order((99, 99)), (99, 99))
        self.assertEqual(book.order((99, 0)), (198, 99))
        self.assertEqual(book.cut(ONE, 1), (198, 98))
        self.assertEqual(book.cut(TWO, 255), (0, 98))
        self.assertEqual(book.totals(), ((198, 99), (510, 1)))

    def test_deeds_by_chance(self):
        rng = random.Random(121)
        known = [pattern for kind in (0, 1) for pattern in all_patterns(MILL, kind)]
        for _ in range(30):
            book = Book(MILL)
            deeds = []
            for _ in range(40):
                what = rng.randrange(3)
                if what == 0:
                    deeds.append(("order", (rng.randint(0, 99), rng.randint(0, 99))))
                    told = book.order(deeds[-1][1])
                elif what == 1:
                    deeds.append(("cut", rng.choice(known), rng.randint(1, 255)))
                    told = book.cut(*deeds[-1][1:])
                else:
                    self.assertIs(book.undo(), bool(deeds))
                    deeds = deeds[:-1]
                    told = book.lacking()
                self.assertEqual(told, self.assert_book(book, deeds))

    def test_the_mill_is_as_it_was(self):
        mill = Mill([(10, 4), (5, 3)], [5, 3], 3)
        before = state(mill)
        book = Book(mill)
        book.order((3, 2))
        book.cut(TWO, 2)
        book.undo()
        book.branch()
        self.assertEqual(state(mill), before)


class Wrong(BookCase):
    def book(self):
        book = Book(MILL)
        book.order((3, 2))
        book.cut(TWO, 1)
        return book

    def assert_raises(self, error, act):
        book = self.book()
        before = seen(book)
        with self.assertRaises(error) as caught:
            act(book)
        self.assertIs(type(caught.exception), error)
        self.assertEqual(seen(book), before)
        self.assertIs(book.undo(), True)
        self.assert_book(book, [("order", (3, 2))])

    def test_bad_orders(self):
        for counts in ((), (1,), (1, 2, 3), (-1, 0), (0, -1), (100, 0), (0, 100), (5, 10 ** 20)):
            self.assert_raises(BadOrder, lambda book: book.order(counts))

    def test_bad_patterns(self):
        for pattern in (
            (2, (1, 0)), (-1, (1, 0)), (0, (0, 0)), (0, (3, 0)), (0, (2, 1)), (0, (0, 4)), (1, (1, 1)), (1, (0, 2)),
            (0, (1,)), (0, ()), (0, (1, 0, 0)), (0, (-1, 1)), (0, (2, -1)),
        ):
            for many in (1, 255, 0):
                self.assert_raises(BadPattern, lambda book: book.cut(pattern, many))

    def test_bad_numbers_of_rolls(self):
        for many in (0, 256, -1, 1000, -255):
            self.assert_raises(BadPattern, lambda book: book.cut(TWO, many))

    def test_in_a_book_without_deeds(self):
        book = Book(MILL)
        with self.assertRaises(BadOrder):
            book.order((100, 0))
        with self.assertRaises(BadPattern):
            book.cut(TWO, 256)
        self.assert_book(book, [])
        self.assertIs(book.undo(), False)


class Undo(BookCase):
    def test_no_deeds(self):
        book = Book(MILL)
        for _ in range(3):
            self.assertIs(book.undo(), False)
            self.assert_book(book, [])

    def test_the_last_deed_that_stands(self):
        book = Book(MILL)
        deeds = [("order", (3, 2)), ("cut", TWO, 2), ("order", (0, 9)), ("cut", ONE, 200)]
        book.order((3, 2))
        book.cut(TWO, 2)
        book.order((0, 9))
        book.cut(ONE, 200)
        for many in (3, 2, 1, 0):
            self.assertIs(book.undo(), True)
            self.assert_book(book, deeds[:many])
        self.assertIs(book.undo(), False)
        self.assertEqual(book.cut(ONE, 1), (0, 0))
        self.assert_book(book, [("cut", ONE, 1)])

    def test_going_on_behind_what_was_undone(self):
        book = Book(MILL)
        book.order((3, 2))
        book.order((1, 1))
        book.undo()
        self.assertEqual(book.cut(TWO, 1), (1, 2))
        self.assert_book(book, [("order", (3, 2)), ("cut", TWO, 1)])


class Branch(BookCase):
    def book(self):
        book = Book(MILL)
        book.order((3, 2))
        book.cut(TWO, 1)
        return book

    def test_the_same_deeds(self):
        book = self.book()
        other = book.branch()
        self.assertIsInstance(other, Book)
        self.assertIsNot(other, book)
        self.assertEqual(seen(other), seen(book))
        self.assert_book(Book(MILL).branch(), [])

    def test_its_own_way_in_both_directions(self):
        book = self.book()
        before = seen(book)
        other = book.branch()
        other.order((9, 9))
        other.cut(ONE, 3)
        self.assertEqual(seen(book), before)
        for _ in range(5):
            other.undo()
        self.assertEqual(seen(book), before)
        self.assert_book(other, [])
        other = book.branch()
        book.cut(ONE, 7)
        self.assertEqual(seen(other), before)
        while book.undo():
            pass
        self.assertEqual(seen(other), before)
        self.assertIs(other.undo(), True)
        self.assert_book(other, [("order", (3, 2))])

    def test_a_branch_of_a_branch(self):
        book = self.book()
        third = book.branch().branch()
        self.assertEqual(third.order((1, 0)), (2, 2))
        self.assert_book(book, [("order", (3, 2)), ("cut", TWO, 1)])


class Own(BookCase):
    def test_the_lists_of_deeds_are_apart(self):
        book = Book(MILL)
        book.order((3, 2))
        other = book.branch()
        self.assertIsNot(book.deeds, other.deeds)
        other.deeds.clear()
        self.assert_book(book, [("order", (3, 2))])
        self.assertIsNot(Book(MILL).deeds, Book(MILL).deeds)

    def test_the_lists_of_the_mill_are_not_the_books(self):
        mill = Mill([(10, 4), (5, 3)], [5, 3], 3)
        book = Book(mill)
        book.order((3, 2))
        mill.rolls.clear()
        mill.widths.clear()
        self.assertEqual(book.cut(TWO, 1), (1, 2))
        self.assertEqual(book.branch().cut(ONE, 2), (1, 0))
        self.assertEqual(book.spent(), 4)

    def test_what_was_told_stays(self):
        book = Book(MILL)
        told = book.order((3, 2))
        totals = book.totals()
        book.cut(TWO, 1)
        self.assertEqual((told, totals), ((3, 2), ((3, 2), (0, 0))))


if __name__ == "__main__":
    unittest.main()
