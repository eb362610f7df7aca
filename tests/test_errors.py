"""The errors of the interface: what they are instances of, and their fields."""

import unittest

from millrolls.errors import BadOrder, BadPattern, LineError, MillrollsError, PowerCut, ShutError


def one_of_each():
    return [LineError(3), PowerCut(17), BadPattern(), BadOrder(), ShutError()]


class Kinds(unittest.TestCase):
    def test_the_base_is_a_value_error(self):
        self.assertTrue(issubclass(MillrollsError, ValueError))
        self.assertIsInstance(MillrollsError(), ValueError)

    def test_each_error_is_a_millrolls_error(self):
        for error in one_of_each():
            self.assertIsInstance(error, MillrollsError)
            self.assertIsInstance(error, ValueError)

    def test_none_is_an_instance_of_another_one(self):
        for error in one_of_each():
            for other in one_of_each():
                same = type(error) is type(other)
                self.assertEqual(isinstance(error, type(other)), same, (error, other))

    def test_the_base_is_none_of_them(self):
        for other in one_of_each():
            self.assertNotIsInstance(MillrollsError(), type(other))

    def test_each_is_raised_and_caught_by_its_own_name_and_by_the_base(self):
        for error in one_of_each():
            for kind in (type(error), MillrollsError, ValueError):
                with self.assertRaises(kind) as caught:
                    raise error
                self.assertIs(caught.exception, error)


class Fields(unittest.TestCase):
    def test_line(self):
        for line in (1, 2, 250, 10 ** 30):
            self.assertEqual(LineError(line).line, line)
        self.assertEqual(LineError(line=4).line, 4)

    def test_written(self):
        for written in (0, 1, 255, 10 ** 30):
            self.assertEqual(PowerCut(written).written, written)
        self.assertEqual(PowerCut(written=4).written, 4)

    def test_a_field_is_the_objects_own(self):
        first, second = LineError(1), LineError(2)
        self.assertEqual((first.line, second.line), (1, 2))
        first, second = PowerCut(1), PowerCut(2)
        self.assertEqual((first.written, second.written), (1, 2))

    def test_fields_are_there_when_it_is_caught(self):
        with self.assertRaises(LineError) as caught:
            raise LineError(7)
        self.assertEqual(caught.exception.line, 7)
        with self.assertRaises(PowerCut) as caught:
            raise PowerCut(9)
        self.assertEqual(caught.exception.written, 9)


if __name__ == "__main__":
    unittest.main()
