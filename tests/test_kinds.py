"""[A3]: what an integer is, and that a list is no tuple."""

import unittest

from echofields.kinds import is_ascending, is_index, is_natural, is_tuple_of, is_whole
from tests.samples import ANY_VALUES, GREAT, VERY_GREAT


class KindsTest(unittest.TestCase):
    def test_integers(self):
        for value in ANY_VALUES:
            self.assertIs(is_whole(value), value.__class__ is int)
        for value in (0, 1, -1, GREAT, -GREAT, VERY_GREAT, -VERY_GREAT):
            self.assertIs(is_whole(value), True)

    def test_truths_are_no_integers(self):
        for value in (True, False):
            self.assertIs(is_whole(value), False)
            self.assertIs(is_natural(value), False)
            self.assertIs(is_index(value, 2), False)

    def test_integers_from_0_on(self):
        for value in ANY_VALUES:
            self.assertIs(is_natural(value), value.__class__ is int and value >= 0)

    def test_integers_below_a_number(self):
        for many in (0, 1, 2, 6):
            for value in ANY_VALUES:
                self.assertIs(is_index(value, many), value.__class__ is int and value in range(many))

    def test_tuples_of_so_many_items(self):
        for many in (0, 1, 2, 4):
            for value in ANY_VALUES:
                self.assertIs(is_tuple_of(value, many), value.__class__ is tuple and len(value) == many)

    def test_ascending_tuples(self):
        for items in ((), (0,), (0, 1), (0, 2, GREAT), ((), (0,), (0, 0), (0, 1), (1,)), (-1, 0)):
            self.assertIs(is_ascending(items), True)
        for items in ((0, 0), (1, 0), (0, 2, 1), (0, 1, 1), ((0,), ()), ((0, 1), (0, 0)), (GREAT, 0), (0, 1, 0)):
            self.assertIs(is_ascending(items), False)


if __name__ == "__main__":
    unittest.main()
