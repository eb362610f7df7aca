"""Points 27 to 29: records of deeds, recovery, devices and journaled books."""

import random
import unittest

from brute import all_patterns, some_mill, some_order, state
from millrolls.books import Book
from millrolls.errors import BadOrder, BadPattern, MillrollsError, PowerCut, ShutError
from millrolls.journal import Device, JournaledBook, opened, record_of, recovered
from millrolls.mills import Mill

MILL = Mill([(10, 4), (5, 3)], [5, 3], 3)
TWO = (0, (2, 0))
ONE = (1, (0, 1))
ORDER = [3, 1, 3, 2, 6, 170]
CUT = [5, 2, 0, 2, 0, 7, 11, 170]
UNDO = [1, 3, 3, 170]
DEEDS = [("order", (3, 2)), ("cut", TWO, 7), ("undo",)]


def whole(body):
    """Return the record of a body, whatever it tells."""
    return [len(body)] + body + [sum(body) % 256, 170]


def octets_of(deeds):
    return [octet for deed in deeds for octet in record_of(deed)]


def some_deed(rng, mill):
    what = rng.randrange(4)
    if what == 0:
        return ("undo",)
    if what == 1:
        return ("order", some_order(rng, mill, 99))
    known = [pattern for kind in range(len(mill.rolls)) for pattern in all_patterns(mill, kind)]
    return ("cut", rng.choice(known), rng.randint(1, 255))


def do(book, deed):
    """Do a deed in a plain book."""
    if deed[0] == "order":
        return book.order(*deed[1:])
    return book.cut(*deed[1:]) if deed[0] == "cut" else book.undo()


def seen(book):
    return (list(book.deeds), book.totals(), book.lacking(), book.spent())


class Records(unittest.TestCase):
    def test_octet_by_octet(self):
        self.assertEqual(record_of(("order", (3, 2))), ORDER)
        self.assertEqual(record_of(("cut", TWO, 7)), CUT)
        self.assertEqual(record_of(("undo",)), UNDO)

    def test_each_octet_has_its_place(self):
        self.assertEqual(record_of(("order", (4, 0, 99))), [4, 1, 4, 0, 99, 104, 170])
        self.assertEqual(record_of(("cut", (2, (1, 5, 3)), 9)), [6, 2, 2, 1, 5, 3, 9, 22, 170])
        self.assertEqual(record_of(("order", (8,))), [2, 1, 8, 9, 170])
        self.assertEqual(record_of(("cut", (1, (6,)), 3)), [4, 2, 1, 6, 3, 12, 170])

    def test_great_counts_and_sums(self):
        self.assertEqual(record_of(("order", (99, 99))), [3, 1, 99, 99, 199, 170])
        self.assertEqual(record_of(("order", (99,) * 6)), [7, 1] + [99] * 6 + [83, 170])
        self.assertEqual(record_of(("cut", (0, (1,)), 252)), [4, 2, 0, 1, 252, 255, 170])
        self.assertEqual(record_of(("cut", (0, (1,)), 253)), [4, 2, 0, 1, 253, 0, 170])
        self.assertEqual(record_of(("cut", (2, (12, 0)), 255)), [5, 2, 2, 12, 0, 255, 15, 170])

    def test_the_list_is_new(self):
        for deed in DEEDS:
            first = record_of(deed)
            self.assertIs(type(first), list)
            first.clear()
            self.assertTrue(record_of(deed))


class RecoveryCase(unittest.TestCase):
    def assert_recovered(self, mill, octets, deeds, many):
        before = (state(mill), list(octets))
        told = recovered(mill, octets)
        self.assertEqual((state(mill), octets), before)
        self.assertEqual((type(told), type(told[0])), (tuple, list))
        self.assertEqual(told, (deeds, many))


class Recovery(RecoveryCase):
    def test_no_octets(self):
        self.assert_recovered(MILL, [], [], 0)

    def test_whole_records(self):
        self.assert_recovered(MILL, ORDER, DEEDS[:1], 6)
        self.assert_recovered(MILL, ORDER + CUT, DEEDS[:2], 14)
        self.assert_recovered(MILL, ORDER + CUT + UNDO, DEEDS, 18)
        self.assert_recovered(MILL, UNDO + UNDO + ORDER, [("undo",), ("undo",), DEEDS[0]], 14)

    def test_a_row_that_is_cut_at_each_place(self):
        row = ORDER + CUT + UNDO + ORDER
        ends = [0, 6, 14, 18, 24]
        deeds = DEEDS + DEEDS[:1]
        for many in range(len(row) + 1):
            at = max(place for place, end in enumerate(ends) if end <= many)
            self.assert_recovered(MILL, row[:many], deeds[:at], ends[at])

    def test_what_is_wrong_is_cut_off_with_all_behind_it(self):
        for wrong in ([0], [255], [170], [3, 1, 3, 2, 6, 171], ORDER[:-1] + [0], [0, 0, 170], [1, 4, 4, 170]):
            self.assert_recovered(MILL, ORDER + wrong + CUT + UNDO, DEEDS[:1], 6)
            self.assert_recovered(MILL, wrong + ORDER, [], 0)

    def test_each_octet_of_a_record_changed(self):
        for deed, record in zip(DEEDS, (ORDER, CUT, UNDO)):
            for at in range(len(record)):
                for octet in range(256):
                    row = record[:at] + [octet] + record[at + 1:]
                    if octet != record[at]:
                        self.assert_recovered(MILL, ORDER + row, DEEDS[:1], 6)
                        self.assert_recovered(MILL, ORDER + row + UNDO, DEEDS[:1], 6)

    def test_a_wrong_length(self):
        for length in (0, 1, 2, 4, 5, 6, 255):
            self.assert_recovered(MILL, [length] + ORDER[1:], [], 0)
            self.assert_recovered(MILL, [length] + ORDER[1:] + ORDER, [], 0)

    def test_a_wrong_sum(self):
        for octet in (0, 5, 7, 170, 255):
            self.assert_recovered(MILL, [3, 1, 3, 2, octet, 170], [], 0)

    def test_a_wrong_last_octet(self):
        for octet in (0, 6, 169, 171, 255):
            self.assert_recovered(MILL, [3, 1, 3, 2, 6, octet], [], 0)

    def test_orders_that_are_none(self):
        for body in ([1], [1, 3], [1, 3, 2, 0], [1, 3, 2, 1, 1], [1, 100, 0], [1, 0, 100], [1, 255, 255]):
            self.assert_recovered(MILL, whole(body), [], 0)
        self.assert_recovered(MILL, whole([1, 99, 99]), [("order", (99, 99))], 6)
        self.assert_recovered(MILL, whole([1, 0, 0]), [("order", (0, 0))], 6)

    def test_cuts_that_are_none(self):
        for body in (
            [2], [2, 0], [2, 7], [2, 0, 2], [2, 0, 7], [2, 0, 2, 0], [2, 0, 2, 7], [2, 0, 2, 0, 0, 7],
            [2, 0, 2, 0, 7, 7], [2, 2, 1, 0, 7], [2, 255, 1, 0, 7], [2, 0, 0, 0, 7], [2, 0, 3, 0, 7], [2, 0, 0, 4, 7],
            [2, 1, 1, 1, 7], [2, 0, 2, 1, 7], [2, 0, 2, 0, 0], [2, 1, 0, 1, 0],
        ):
            self.assert_recovered(MILL, whole(body), [], 0)
        self.assert_recovered(MILL, whole([2, 0, 2, 0, 255]), [("cut", TWO, 255)], 8)
        self.assert_recovered(MILL, whole([2, 1, 0, 1, 1]), [("cut", ONE, 1)], 8)
        self.assert_recovered(MILL, whole([2, 0, 1, 0, 1]), [("cut", (0, (1, 0)), 1)], 8)

    def test_other_bodies(self):
        for body in ([], [0], [4], [255], [0, 3, 2], [4, 0, 2, 0, 7], [3, 0], [3, 3], [3, 1, 1], [170]):
            self.assert_recovered(MILL, whole(body), [], 0)
            self.assert_recovered(MILL, UNDO + whole(body) + UNDO, [("undo",)], 4)

    def test_the_mill_tells(self):
        other = Mill([(10, 4)], [5, 3, 2], 3)
        self.assert_recovered(other, ORDER, [], 0)
        self.assert_recovered(other, whole([1, 3, 2, 0]), [("order", (3, 2, 0))], 7)
        self.assert_recovered(Mill([(9, 4)], [5, 3], 3), CUT, [], 0)
        self.assert_recovered(Mill([(10, 4)], [5, 3], 1), CUT, [], 0)

    def test_of_all_mills_and_deeds(self):
        rng = random.Random(131)
        for _ in range(60):
            mill = some_mill(rng, rng.randint(1, 4))
            deeds = [some_deed(rng, mill) for _ in range(rng.randint(0, 12))]
            row = octets_of(deeds)
            self.assert_recovered(mill, row, deeds, len(row))
            many = rng.randint(0, len(row))
            told, taken = recovered(mill, row[:many])
            self.assertEqual(told, deeds[:len(told)])
            self.assertEqual(octets_of(told), row[:taken])
            self.assertLess(len(row[:many]) - taken, len(octets_of(deeds[len(told):][:1])) or 1)

    def test_the_list_is_new(self):
        recovered(MILL, ORDER)[0].clear()
        self.assertEqual(recovered(MILL, ORDER), (DEEDS[:1], 6))


class Devices(unittest.TestCase):
    def test_each_power(self):
        for begun in ([], [9, 8, 7]):
            for power in range(5):
                device = Device(begun, power)
                self.assertEqual((device.octets, device.power), (begun, power))
                for many in range(power):
                    self.assertIsNone(device.append(many))
                    self.assertEqual((device.octets, device.power), (begun + list(range(many + 1)), power - many - 1))
                for _ in range(2):
                    with self.assertRaises(PowerCut) as caught:
                        device.append(99)
                    self.assertEqual(caught.exception.written, len(begun) + power)
                    self.assertIsInstance(caught.exception, MillrollsError)
                    self.assertEqual((device.octets, device.power), (begun + list(range(power)), 0))

    def test_the_list_is_its_own(self):
        octets = [1, 2]
        device = Device(octets, 5)
        device.append(3)
        self.assertEqual(octets, [1, 2])
        octets.clear()
        self.assertEqual(device.octets, [1, 2, 3])


class JournalCase(unittest.TestCase):
    def journaled(self, power):
        return JournaledBook(Book(MILL), Device([], power))


class Journaled(JournalCase):
    def test_fields(self):
        book = Book(MILL)
        device = Device([], 5)
        journaled = JournaledBook(book, device)
        self.assertIs(journaled.book, book)
        self.assertIs(journaled.device, device)
        self.assertIs(journaled.shut, False)

    def test_what_the_methods_return_and_just_the_records(self):
        journaled = self.journaled(1000)
        self.assertEqual(journaled.perform(("order", (16, 2))), (16, 2))
        self.assertEqual(journaled.device.octets, record_of(("order", (16, 2))))
        self.assertEqual(journaled.perform(("cut", TWO, 7)), (2, 2))
        self.assertEqual(journaled.device.octets, record_of(("order", (16, 2))) + CUT)
        self.assertIs(journaled.perform(("undo",)), True)
        self.assertEqual(journaled.device.octets, record_of(("order", (16, 2))) + CUT + UNDO)
        self.assertEqual(journaled.device.power, 1000 - 18)
        self.assertEqual(journaled.book.lacking(), (16, 2))
        self.assertIs(journaled.shut, False)

    def test_nothing_lacks(self):
        # What lacks may be nothing at all, and the deed is written all the same.
        journaled = self.journaled(1000)
        self.assertEqual(journaled.perform(("order", (0, 0))), (0, 0))
        self.assertEqual(journaled.perform(("cut", ONE, 1)), (0, 0))
        self.assertEqual(journaled.device.octets, octets_of([("order", (0, 0)), ("cut", ONE, 1)]))

    def test_what_raises_writes_nothing(self):
        for power in (0, 1000):
            for deed, error in (
                (("order", (100, 0)), BadOrder), (("order", (1,)), BadOrder), (("cut", (0, (0, 0)), 1), BadPattern),
                (("cut", TWO, 0), BadPattern), (("cut", TWO, 256), BadPattern), (("cut", (2, (1, 0)), 1), BadPattern),
            ):
                journaled = self.journaled(power)
                with self.assertRaises(error):
                    journaled.perform(deed)
                self.assertEqual((journaled.device.octets, journaled.device.power), ([], power))
                self.assertEqual(seen(journaled.book), seen(Book(MILL)))
                self.assertIs(journaled.shut, False)

    def test_undoing_without_a_deed_writes_nothing(self):
        for power in (0, 1000):
            journaled = self.journaled(power)
            for _ in range(3):
                self.assertIs(journaled.perform(("undo",)), False)
            self.assertEqual((journaled.device.octets, journaled.device.power), ([], power))
            self.assertIs(journaled.shut, False)

    def test_going_on_behind_what_raised(self):
        journaled = self.journaled(14)
        with self.assertRaises(BadOrder):
            journaled.perform(("order", (100, 0)))
        journaled.perform(DEEDS[0])
        with self.assertRaises(BadPattern):
            journaled.perform(("cut", TWO, 0))
        journaled.perform(DEEDS[1])
        self.assertEqual(journaled.device.octets, ORDER + CUT)

    def test_each_power(self):
        row = ORDER + CUT + UNDO
        ends = [6, 14, 18]
        for power in range(20):
            journaled = self.journaled(power)
            plain = Book(MILL)
            for deed, end in zip(DEEDS, ends):
                told = do(plain, deed)
                if end > power:
                    self.assert_power_goes(journaled, deed, power)
                    break
                self.assertEqual(journaled.perform(deed), told)
                self.assertIs(journaled.shut, False)
            self.assertEqual(seen(journaled.book), seen(plain))
            self.assertEqual(journaled.device.octets, row[:power])
            whole_ones = len([end for end in ends if end <= power])
            self.assertEqual(recovered(MILL, journaled.device.octets), (DEEDS[:whole_ones], ([0] + ends)[whole_ones]))

    def assert_power_goes(self, journaled, deed, power):
        with self.assertRaises(PowerCut) as caught:
            journaled.perform(deed)
        self.assertEqual(caught.exception.written, power)
        self.assertIs(journaled.shut, True)
        before = seen(journaled.book)
        for later in DEEDS + [("order", (100, 0)), ("cut", TWO, 0)]:
            with self.assertRaises(ShutError) as caught:
                journaled.perform(later)
            self.assertIs(type(caught.exception), ShutError)
        self.assertEqual(seen(journaled.book), before)
        self.assertEqual(journaled.device.octets, (ORDER + CUT + UNDO)[:power])

    def test_a_device_with_octets_tells_them_all(self):
        journaled = JournaledBook(Book(MILL), Device(UNDO, 2))
        with self.assertRaises(PowerCut) as caught:
            journaled.perform(DEEDS[0])
        self.assertEqual(caught.exception.written, 6)

    def test_a_power_that_comes_back_does_not_help(self):
        journaled = self.journaled(3)
        with self.assertRaises(PowerCut):
            journaled.perform(DEEDS[0])
        journaled.device.power = 100
        with self.assertRaises(ShutError):
            journaled.perform(DEEDS[0])
        self.assertEqual(journaled.device.octets, ORDER[:3])


class Opened(JournalCase):
    def assert_opened(self, octets, power, deeds, kept):
        before = (state(MILL), list(octets))
        journaled = opened(MILL, octets, power)
        self.assertEqual((state(MILL), octets), before)
        plain = Book(MILL)
        for deed in deeds:
            do(plain, deed)
        self.assertIsInstance(journaled, JournaledBook)
        self.assertEqual(seen(journaled.book), seen(plain))
        self.assertEqual((journaled.device.octets, journaled.device.power), (kept, power))
        self.assertIs(journaled.shut, False)
        return journaled

    def test_ordinary(self):
        self.assert_opened([], 0, [], [])
        self.assert_opened(ORDER + CUT, 5, DEEDS[:2], ORDER + CUT)
        self.assert_opened(ORDER + CUT + UNDO, 5, DEEDS, ORDER + CUT + UNDO)

    def test_an_undo_without_a_deed_does_nothing(self):
        self.assert_opened(UNDO + UNDO + ORDER, 5, DEEDS[:1], UNDO + UNDO + ORDER)
        self.assert_opened(ORDER + UNDO + UNDO + CUT, 5, DEEDS[1:2], ORDER + UNDO + UNDO + CUT)

    def test_the_rest_is_cut_off(self):
        row = ORDER + CUT + UNDO
        ends = [0, 6, 14, 18]
        for many in range(len(row) + 1):
            at = max(place for place, end in enumerate(ends) if end <= many)
            self.assert_opened(row[:many], 3, DEEDS[:at], row[:ends[at]])
        self.assert_opened(ORDER + [9] + CUT, 3, DEEDS[:1], ORDER)

    def test_the_octets_are_the_devices_own(self):
        octets = list(ORDER)
        journaled = opened(MILL, octets, 100)
        journaled.perform(DEEDS[1])
        self.assertEqual(octets, ORDER)

    def test_going_on_with_further_deeds(self):
        for many in range(len(ORDER), len(ORDER + CUT)):
            journaled = opened(MILL, (ORDER + CUT)[:many], 12)
            self.assertEqual(journaled.perform(("cut", ONE, 1)), (3, 1))
            self.assertIs(journaled.perform(("undo",)), True)
            with self.assertRaises(PowerCut) as caught:
                journaled.perform(("undo",))
            self.assertEqual(caught.exception.written, 18)
            told = recovered(MILL, journaled.device.octets)
            self.assertEqual(told, ([DEEDS[0], ("cut", ONE, 1), ("undo",)], 18))

    def test_wherever_the_power_went(self):
        rng = random.Random(132)
        for _ in range(40):
            octets = []
            told = []
            for _ in range(rng.randint(1, 5)):
                journaled = opened(MILL, octets, rng.randint(0, 60))
                self.assertEqual(recovered(MILL, octets)[0], told)
                try:
                    while True:
                        deed = some_deed(rng, MILL)
                        if journaled.perform(deed) is not False:
                            told.append(deed)
                except PowerCut:
                    octets = journaled.device.octets
            self.assertEqual(recovered(MILL, octets)[0], told)
            plain = Book(MILL)
            for deed in told:
                do(plain, deed)
            self.assertEqual(seen(opened(MILL, octets, 0).book), seen(plain))


if __name__ == "__main__":
    unittest.main()
