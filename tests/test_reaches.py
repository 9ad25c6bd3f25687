"""[B1] and [B2]: beginnings, and the moments that are reached from them."""

import unittest

from echofields.errors import TooManyMoments
from echofields.reaches import beginnings, reached, reached_from
from tests import checks, naive
from tests.samples import (
    ALSO_3001, C, CALM_3000, EMPTY_TABLE, FORMS, FULL, JUST_3001, LONE, NO_LINKS, P, RESTING_3000, S, T, TURNING_3000,
    TWINS, raised, same,
)

FORMS_HERE = FORMS + checks.MIXED


class BeginningsTest(unittest.TestCase):
    def test_against_the_words(self):
        for form in FORMS_HERE + [RESTING_3000, JUST_3001]:
            for calm in (False, True):
                self.assertTrue(same(beginnings(form, calm=calm), tuple(naive.asked(form, calm))))
            self.assertTrue(same(beginnings(form), tuple(naive.asked(form))))

    def test_they_are_ascending(self):
        for form in FORMS_HERE:
            found = beginnings(form)
            self.assertEqual(list(found), sorted(set(found)))

    def test_no_filling_is_calm(self):
        self.assertEqual(beginnings(T, calm=True), ())
        self.assertEqual(reached(T, calm=True), ())
        self.assertEqual(len(beginnings(T)), 16)

    def test_forms_without_links(self):
        self.assertEqual(beginnings(LONE)[:3], (((0,), (0, 0)), ((0,), (0, 1)), ((0,), (0, 2))))
        self.assertEqual(len(beginnings(LONE, calm=True)), 36)
        self.assertEqual(reached(LONE), tuple((0, (value,), (), ()) for value in range(6)))
        self.assertEqual(len(beginnings(NO_LINKS)), 36 * 11)

    def test_too_many_moments_are_not_asked_for(self):
        for form in (JUST_3001, ALSO_3001):
            self.assertEqual(len(beginnings(form)), len(naive.asked(form)))


class ReachedTest(unittest.TestCase):
    def test_against_the_words(self):
        for form in FORMS_HERE:
            for calm in (False, True):
                found = naive.reach(form, naive.asked(form, calm))
                self.assertTrue(same(reached(form, calm=calm), tuple(sorted(found))))
            self.assertTrue(same(reached(form), tuple(sorted(naive.reach(form, naive.asked(form))))))

    def test_from_one_beginning(self):
        for form in FORMS_HERE:
            for filling, edit in naive.asked(form)[::7]:
                found = naive.reach(form, [(filling, edit)])
                self.assertTrue(same(reached_from(form, filling, edit), tuple(sorted(found))))

    def test_as_written(self):
        self.assertEqual(reached_from(S, (0, 1), (0, 0)), ((0, (0, 1), (), ()),))
        self.assertEqual(reached_from(P, (0, 0), (0, 1)), (
            (0, (1, 0), (), ()), (0, (1, 0), (0, 1), ()), (0, (1, 0), (1,), ()),
            (0, (1, 1), (), ()), (0, (1, 1), (0,), ()),
        ))
        self.assertEqual(len(reached(S)), 22)
        self.assertEqual(reached_from(EMPTY_TABLE, (0, 0), (0, 1)), (
            (0, (1, 0), (), (0,)), (0, (1, 0), (0,), ()),
        ))
        self.assertEqual(len(reached_from(TWINS, (0, 0), (0, 1))), 4)
        self.assertEqual(len(reached_from(C, (0, 0, 0), (0, 1))), 5)

    def test_what_is_no_filling_or_no_edit(self):
        checks.check_beginning(self, reached_from)

    def test_the_limit(self):
        checks.check_limit(self, lambda form, calm: reached(form, calm=calm))
        for form in checks.SMALL:
            for beginning in naive.asked(form)[::11]:
                checks.check_limit_at(self, lambda: reached_from(form, *beginning), form, beginning)

    def test_just_3000_moments(self):
        for form in (RESTING_3000, TURNING_3000):
            found = reached(form)
            self.assertEqual(len(found), 3000)
            self.assertEqual(list(found), sorted(naive.reach(form, naive.asked(form))))
        found = reached(CALM_3000, calm=True)
        self.assertEqual(list(found), sorted(naive.reach(CALM_3000, naive.asked(CALM_3000, True))))
        self.assertEqual(len(found), 3000)

    def test_just_3001_moments(self):
        for form in (JUST_3001, ALSO_3001):
            self.assertEqual(len(naive.reach(form, naive.asked(form))), 3001)
            self.assertIs(raised(lambda: reached(form)).__class__, TooManyMoments)
            self.assertIs(raised(lambda: reached(form, calm=False)).__class__, TooManyMoments)
            self.assertEqual(reached(form, calm=True), tuple(sorted(naive.reach(form, naive.asked(form, True)))))
        self.assertIs(raised(lambda: reached(CALM_3000)).__class__, TooManyMoments)

    def test_one_beginning_of_a_great_form(self):
        for form in (JUST_3001, ALSO_3001, CALM_3000, FULL):
            for filling, edit in naive.asked(form)[::17]:
                found = naive.reach(form, [(filling, edit)])
                self.assertTrue(same(reached_from(form, filling, edit), tuple(sorted(found))))


if __name__ == "__main__":
    unittest.main()
