"""[A4] and [A7]: wishes, loud links and calm fillings."""

import unittest

from echofields.errors import BadFilling, NoLink
from echofields.forms import is_calm, loud_links, wish
from tests.samples import (
    ANY_VALUES, C, EMPTY_TABLE, FORMS, GREAT, LONE, NO_LINKS, P, S, T, TWINS, VERY_GREAT,
    duplicate, is_among, naive_fillings, raised, same, spoiled,
)


class WishTest(unittest.TestCase):
    def test_wishes_are_the_items_of_the_table(self):
        for form in FORMS:
            for filling in naive_fillings(form):
                for index, (source, _, table, _) in enumerate(form[1]):
                    self.assertTrue(same(wish(form, filling, index), table[filling[source]]))

    def test_wishes_as_written(self):
        self.assertIsNone(wish(S, (0, 1), 0))
        self.assertEqual([wish(S, (1, value), 0) for value in range(3)], [2, 2, 2])
        self.assertEqual([wish(C, (2, 1, 0), link) for link in range(3)], [2, None, 1])
        self.assertIsNone(wish(EMPTY_TABLE, (2, 1), 0))

    def test_what_is_no_filling(self):
        for form in FORMS:
            rows = naive_fillings(form)
            for value in ANY_VALUES + spoiled(rows[-1]):
                if not is_among(value, rows):
                    for call in (lambda: wish(form, value, 0), lambda: loud_links(form, value),
                                 lambda: is_calm(form, value)):
                        error = raised(call)
                        self.assertIs(error.__class__, BadFilling)
                        self.assertIs(error.given, value)

    def test_what_is_no_link(self):
        for form in FORMS:
            many = len(form[1])
            for value in ANY_VALUES + [many, -many, -1]:
                if not is_among(value, range(many)):
                    error = raised(lambda: wish(form, naive_fillings(form)[0], value))
                    self.assertIs(error.__class__, NoLink)
                    self.assertIs(error.given, value)

    def test_truths_are_no_links(self):
        for value in (True, False):
            self.assertIs(raised(lambda: wish(T, (0, 0), value)).given, value)

    def test_the_filling_is_judged_before_the_link(self):
        for link in (None, 9, True, GREAT, VERY_GREAT, [0], "0"):
            given = [0, 0]
            error = raised(lambda: wish(T, given, link))
            self.assertIs(error.__class__, BadFilling)
            self.assertIs(error.given, given)

    def test_loud_links(self):
        for form in FORMS:
            for filling in naive_fillings(form):
                loud = []
                for index, (source, target, table, _) in enumerate(form[1]):
                    if table[filling[source]] not in (None, filling[target]):
                        loud.append(index)
                self.assertTrue(same(loud_links(form, filling), tuple(loud)))
                self.assertIs(is_calm(form, filling), not loud)

    def test_loud_links_as_written(self):
        self.assertEqual([loud_links(T, filling) for filling in naive_fillings(T)], [(0,), (1,), (1,), (0,)])
        self.assertEqual([loud_links(P, filling) for filling in naive_fillings(P)], [(1,), (0,), (1,), (0,)])
        self.assertEqual(loud_links(TWINS, (0, 1)), (0, 1))
        self.assertEqual(loud_links(C, (1, 0, 1)), (0, 1, 2))
        self.assertEqual(loud_links(S, (0, 1)), ())

    def test_calm_fillings_as_written(self):
        self.assertEqual([row for row in naive_fillings(S) if is_calm(S, row)], [(0, 0), (0, 1), (0, 2), (1, 2)])
        self.assertEqual([row for row in naive_fillings(C) if is_calm(C, row)], [(0, 0, 0), (2, 2, 1)])
        self.assertEqual([row for row in naive_fillings(T) if is_calm(T, row)], [])
        for form in (LONE, NO_LINKS, EMPTY_TABLE):
            self.assertTrue(all(is_calm(form, row) for row in naive_fillings(form)))

    def test_guards_make_no_difference(self):
        for guard in range(4):
            form = ((2, 2), ((0, 1, (1, 0), guard),))
            self.assertEqual([loud_links(form, row) for row in naive_fillings(form)], [(0,), (), (), (0,)])
            self.assertEqual([wish(form, row, 0) for row in naive_fillings(form)], [1, 1, 0, 0])

    def test_nothing_is_changed(self):
        given = [0, [1]]
        link = {"a": [0]}
        before = duplicate([given, link])
        raised(lambda: wish(S, given, 0))
        raised(lambda: wish(S, (0, 0), link))
        raised(lambda: loud_links(S, given))
        raised(lambda: is_calm(S, given))
        self.assertTrue(same([given, link], before))


if __name__ == "__main__":
    unittest.main()
