"""[D1] to [D4]: settled forms."""

import unittest
from unittest import mock

from echofields.errors import BadEdit, BadEdits, BadFilling, TooManyMoments, Unsettled
from echofields.forms import field_ring
from echofields.settled import find_row, find_stuck, find_swap, find_unsettled, led_to, rooms, row_holds
from tests import checks, naive, naive_more
from tests.checks import QUIET, WHIRL
from tests.samples import (
    ALSO_3001, ANY_VALUES, C, CALM_3000, EMPTY_TABLE, FORMS, FULL, GREAT, JUST_3001, LONE, NO_LINKS, P, Q, RESTING_3000,
    S, SOME_VALUES, T, TURNING_3000, TWINS, U, V, VERY_GREAT, duplicate, is_among, raised, same, spoiled,
)

ALL = checks.MIXED + FORMS[:-1]
SETTLED = [form for form in ALL if naive_more.find_unsettled(form) is None]
UNSETTLED = [form for form in ALL if form not in SETTLED]
# Whoever edits field 0 has all other fields follow; no field can be set by itself for long.
CHAIN = ((3, 3, 3), ((0, 1, (0, 1, 2), 0), (1, 2, (0, 1, 2), 0)))
# Field 0 is always 0 again, so it can't be led to 1, and field 1 goes up only.
FIXED = ((2, 3), ((0, 1, (None, 2), 1), (1, 0, (0, 0, 0), 0)))
ONE_ROW = ("row", ((0, 1), (1, 1)), (2, 2, 2, 1, 0, 1))
CLOSED = ("closed", ((0, 0), (1, 1)))


class FindUnsettledTest(unittest.TestCase):
    def test_against_the_words(self):
        self.assertGreater(len(SETTLED), 40)
        self.assertGreater(len(UNSETTLED), 100)
        for form in ALL + [FULL, CHAIN, FIXED, WHIRL]:
            self.assertTrue(same(find_unsettled(form), naive_more.find_unsettled(form)), form)

    def test_as_written(self):
        self.assertEqual([find_unsettled(form) for form in (S, U, T)], [None, None, ((0, 0), (1, 1))])
        self.assertEqual(find_unsettled(P), ((0, 0), (0, 1)))
        self.assertEqual([find_unsettled(form) for form in (LONE, NO_LINKS, EMPTY_TABLE, TWINS)], [None] * 4)

    def test_either_cause_may_be_the_first(self):
        causes = set()
        for form in UNSETTLED:
            told = naive_more.comings(form)
            first_endless = min([row for row in told if told[row][1]], default=None)
            first_parted = min([row for row in told if len(told[row][0]) > 1], default=None)
            found = find_unsettled(form)
            self.assertEqual(found, min(row for row in (first_endless, first_parted) if row))
            causes.add((found == first_endless, found == first_parted, first_endless is None, first_parted is None))
        self.assertGreaterEqual(causes, {
            (True, False, False, False), (False, True, False, False), (True, True, False, False),
            (True, False, False, True), (False, True, True, False),
        })

    def test_no_rings_and_single_targets_are_settled(self):
        for form in checks.MIXED:
            targets = [link[1] for link in form[1]]
            if field_ring(form)[0] == "ranks" and len(set(targets)) == len(targets):
                self.assertIs(find_unsettled(form), None)

    def test_great_forms(self):
        for form in (RESTING_3000, TURNING_3000):
            self.assertEqual(find_unsettled(form), naive_more.find_unsettled(form))
        self.assertIs(find_unsettled(QUIET), None)

    def test_the_limit(self):
        for form in (JUST_3001, ALSO_3001):
            self.assertIs(raised(lambda: find_unsettled(form)).__class__, TooManyMoments)
        # CALM_3000 is only small for its calm beginnings, and these alone are not asked here.
        self.assertIs(raised(lambda: find_unsettled(CALM_3000)).__class__, TooManyMoments)


class LedToTest(unittest.TestCase):
    def test_each_edit(self):
        for form in SETTLED + [CHAIN, FIXED]:
            leads = naive_more.all_leads(form)
            for filling, edit in naive.asked(form):
                self.assertTrue(same(led_to(form, filling, (edit,)), leads[filling, edit]))
                if len(leads) > 50:
                    break

    def test_any_order_leads_there(self):
        for form in SETTLED[::4]:
            for filling, edit in naive.asked(form)[::5]:
                found = naive.reach(form, [(filling, edit)])
                self.assertEqual([led_to(form, filling, (edit,))], naive.ends(found, naive.begin(form, filling, edit)))

    def test_rows(self):
        self.assertEqual(led_to(S, (0, 1), ((0, 1), (1, 0))), (1, 0))
        for form in SETTLED[::5] + [CHAIN, FIXED]:
            leads = naive_more.all_leads(form)
            edits = tuple(naive.all_edits(form))
            for filling in naive.all_fillings(form)[::7]:
                for row in (edits, edits[::-1], edits[1:] + edits[:3], edits[:1] * 3):
                    self.assertTrue(same(led_to(form, filling, row), naive_more.led_by(leads, filling, row)))

    def test_rows_of_none_and_200_and_201(self):
        for form in (S, U, CHAIN, LONE):
            leads = naive_more.all_leads(form)
            edits = tuple(naive.all_edits(form))
            for filling in naive.all_fillings(form):
                self.assertEqual(led_to(form, filling, ()), filling)
            row = (edits * 100)[:200]
            filling = naive.all_fillings(form)[0]
            self.assertEqual(led_to(form, filling, row), naive_more.led_by(leads, filling, row))
            error = raised(lambda: led_to(form, filling, row + edits[:1]))
            self.assertIs(error.__class__, BadEdits)
            self.assertIs(error.number, None)

    def test_edits_that_change_nothing(self):
        for form in SETTLED[::5]:
            for filling in naive.all_fillings(form):
                row = tuple(enumerate(filling))
                self.assertEqual(led_to(form, filling, row), filling)


class FindRowTest(unittest.TestCase):
    def test_against_the_words(self):
        words = set()
        for form in SETTLED[::3] + [S, U, CHAIN, FIXED]:
            rows = naive.all_fillings(form)
            step = max(1, len(rows) // 5)
            for filling in rows[::step]:
                for goal in rows[1::step] + [filling]:
                    value = find_row(form, filling, goal)
                    self.assertTrue(same(value, naive_more.find_row(form, filling, goal)), (form, filling, goal))
                    self.assertIs(row_holds(form, filling, goal, value), True)
                    words.add((value[0], len(value[1]) if value[0] == "row" else None))
        self.assertGreaterEqual(words, {("row", 0), ("row", 1), ("row", 2), ("row", 3), ("closed", None)})

    def test_as_written(self):
        self.assertEqual(find_row(S, (0, 0), (1, 1)), ONE_ROW)
        self.assertEqual(find_row(U, (0, 0), (0, 1)), CLOSED)

    def test_the_goal_itself(self):
        self.assertEqual(find_row(U, (0, 1), (0, 1)), ("row", (), (None, 0, None, None)))
        self.assertEqual(find_row(LONE, (2,), (2,)), ("row", (), (1, 1, 0, 1, 1, 1)))


class RowHoldsTest(unittest.TestCase):
    def check(self, given, value, expected):
        self.assertIs(naive_more.row_holds(*given, value), expected)
        self.assertIs(row_holds(*given, value), expected)

    def test_variants_of_evidence(self):
        cases = [(S, (0, 0), (1, 1)), (U, (0, 0), (0, 1)), (U, (0, 1), (0, 1)), (TWINS, (0, 0), (1, 0)),
                 (LONE, (0,), (5,)), (FIXED, (0, 0), (1, 1)), (FIXED, (1, 0), (0, 2)), (U, (0, 1), (1, 1))]
        for given in cases:
            leads = naive_more.all_leads(given[0])
            value = find_row(*given)
            before = duplicate(value)
            for other in spoiled(value, SOME_VALUES) + checks.row_variants(value) + ANY_VALUES:
                self.assertIs(row_holds(*given, other), naive_more.row_holds(*given, other, leads), other)
            self.assertTrue(same(value, before))

    def test_evidence_of_other_questions(self):
        for form in (S, U, FIXED, TWINS):
            rows = naive.all_fillings(form)
            leads = naive_more.all_leads(form)
            values = [find_row(form, filling, goal) for filling in rows for goal in rows]
            for filling in rows:
                for goal in rows:
                    for value in values:
                        self.assertIs(row_holds(form, filling, goal, value),
                                      naive_more.row_holds(form, filling, goal, value, leads))

    def test_other_rows_and_numbers(self):
        given = (S, (0, 0), (1, 1))
        self.check(given, ONE_ROW, True)
        self.check(given, ("row", ((0, 1), (1, 1)), (2, 1, 2, 1, 0, 1)), True)
        self.check(given, ("row", ((0, 1), (1, 1)), (2, 0, 2, 1, 0, 1)), False)
        self.check(given, ("row", ((0, 1), (1, 1)), (2, None, 2, 1, 0, 1)), False)
        self.check(given, ("row", ((0, 1), (1, 1)), (2, 3, 2, 1, 0, 1)), False)
        self.check(given, ("row", ((0, 1), (1, 1)), (2, 2, 2, 1, 1, 1)), False)
        self.check(given, ("row", ((0, 1), (1, 1)), (1, 1, 1, 1, 0, 1)), False)
        self.check(given, ("row", ((0, 1), (1, 1)), (2, VERY_GREAT, 2, 1, 0, 1)), False)
        self.check(given, ("row", ((0, 1), (1, 1), (1, 1)), (3, 2, 2, 1, 0, 1)), False)
        self.check(given, ("row", ((0, 1), (1, 2)), (2, 2, 2, 1, 0, 1)), False)
        self.check(given, ("row", ((1, 1), (0, 1), (1, 1)), (2, 2, 2, 1, 0, 1)), False)
        self.check(given, ("row", (), (2, 2, 2, 1, 0, 1)), False)
        self.check((U, (0, 0), (1, 1)), ("row", ((1, 1),), (1, 1, 1, 0)), True)
        self.check((U, (0, 0), (1, 1)), ("row", ((1, 1),), (1, None, 1, 0)), False)
        self.check((U, (0, 0), (1, 1)), ("row", ((1, 1),) * 201, (1, 1, 1, 0)), False)

    def test_closed_sets(self):
        given = (U, (0, 0), (0, 1))
        self.check(given, CLOSED, True)
        self.check(given, ("closed", ((0, 0), (1, 0), (1, 1))), True)
        self.check(given, ("closed", ((0, 0), (0, 1), (1, 1))), False)
        self.check(given, ("closed", ((0, 0),)), False)
        self.check(given, ("closed", ((1, 1), (0, 0))), False)
        self.check(given, ("closed", ((0, 0), (0, 0), (1, 1))), False)
        self.check(given, ("closed", ()), False)
        self.check((U, (0, 1), (0, 1)), CLOSED, False)

    def test_truths_are_no_integers(self):
        given = (S, (0, 0), (1, 1))
        self.check(given, ("row", ((0, True), (1, 1)), (2, 2, 2, 1, 0, 1)), False)
        self.check(given, ("row", ((0, 1), (1, 1)), (2, 2, 2, True, 0, 1)), False)
        self.check(given, ("row", ((0, 1), (1, 1)), (2, 2, 2, 1, False, 1)), False)
        self.check((U, (0, 0), (0, 1)), ("closed", ((0, False), (1, 1))), False)
        self.check(given, ("row", [(0, 1), (1, 1)], (2, 2, 2, 1, 0, 1)), False)
        self.check(given, ("row", ((0, 1), (1, 1)), [2, 2, 2, 1, 0, 1]), False)


class RoomsTest(unittest.TestCase):
    def test_against_the_words(self):
        for form in SETTLED[::2] + [CHAIN, FIXED, NO_LINKS]:
            self.assertTrue(same(rooms(form), naive_more.rooms(form)))

    def test_as_written(self):
        self.assertEqual(rooms(U), (((0, 0), (1, 1)), ((0, 1),), ((1, 0),)))
        self.assertEqual(rooms(LONE), (tuple((value,) for value in range(6)),))
        self.assertEqual(len(rooms(NO_LINKS)), 1)

    def test_find_swap_and_find_stuck(self):
        found = set()
        for form in SETTLED[::3] + [S, U, CHAIN, FIXED]:
            edits = naive.all_edits(form)
            for edit in edits[:4]:
                stuck = find_stuck(form, edit)
                self.assertTrue(same(stuck, naive_more.find_stuck(form, edit)))
                for other in edits[-4:]:
                    swap = find_swap(form, edit, other)
                    self.assertTrue(same(swap, naive_more.find_swap(form, edit, other)))
                    found.add((swap is None, stuck is None))
        self.assertEqual(len(found), 4)

    def test_swaps_as_written(self):
        self.assertEqual([find_swap(S, (0, 1), (1, 0)), find_stuck(S, (0, 0)), find_stuck(S, (1, 0))], [(0, 0), (1, 0), None])
        self.assertIs(find_swap(S, (0, 1), (0, 1)), None)
        self.assertIs(find_swap(NO_LINKS, (0, 1), (1, 1)), None)


class WrongTest(unittest.TestCase):
    def calls(self, one, other):
        """Return the calls with two values in the places of their first two arguments, and the first one's error."""
        return [
            (lambda: led_to(S, one, other), BadFilling), (lambda: find_row(S, one, other), BadFilling),
            (lambda: row_holds(S, one, other, None), BadFilling), (lambda: find_swap(S, one, other), BadEdit),
            (lambda: find_stuck(S, one), BadEdit),
        ]

    def test_the_first_argument(self):
        for value in ANY_VALUES + spoiled((1, 2)):
            for other in ((0, 0), None, [0, 0]):
                for call, kind in self.calls(value, other):
                    allowed = naive.all_fillings(S) if kind is BadFilling else naive.all_edits(S)
                    if not is_among(value, allowed):
                        error = raised(call)
                        self.assertIs(error.__class__, kind)
                        self.assertIs(error.given, value)

    def test_the_second_argument(self):
        for value in ANY_VALUES + spoiled((1, 2)):
            if not is_among(value, naive.all_fillings(S)):
                for call in (lambda: find_row(S, (0, 0), value), lambda: row_holds(S, (0, 0), value, ONE_ROW)):
                    error = raised(call)
                    self.assertIs(error.__class__, BadFilling)
                    self.assertIs(error.given, value)
            if not is_among(value, naive.all_edits(S)):
                error = raised(lambda: find_swap(S, (0, 0), value))
                self.assertIs(error.__class__, BadEdit)
                self.assertIs(error.given, value)

    def check_edits(self, value, number):
        error = raised(lambda: led_to(S, (0, 0), value))
        self.assertIs(error.__class__, BadEdits)
        self.assertTrue(same(error.number, number))

    def test_rows_that_are_none(self):
        for value in ANY_VALUES:
            if value.__class__ is not tuple or len(value) > 200:
                self.check_edits(value, None)
            elif value:
                self.check_edits(value, 0)
        self.check_edits([(0, 1)], None)
        self.check_edits(((0, 1),) * 201, None)
        self.check_edits((None,) * 201, None)
        self.check_edits((None,) * 200, 0)
        for value in ANY_VALUES + spoiled((0, 1)):
            if not is_among(value, naive.all_edits(S)):
                self.check_edits((value, None), 0)
                self.check_edits(((0, 1), (1, 2), value), 2)
                self.check_edits(((0, 1),) * 199 + (value,), 199)

    def test_the_order_of_the_errors(self):
        edits = ((0, 0), (0, 1))
        for form in (JUST_3001, ALSO_3001):
            first = naive.all_fillings(form)[0]
            for call in (lambda: led_to(form, first, ()), lambda: find_row(form, first, first), lambda: rooms(form),
                         lambda: row_holds(form, first, first, None), lambda: find_swap(form, *edits),
                         lambda: find_stuck(form, (0, 0))):
                self.assertIs(raised(call).__class__, TooManyMoments)
            self.assertIs(raised(lambda: led_to(form, first, None)).__class__, BadEdits)
            self.assertIs(raised(lambda: led_to(form, None, None)).__class__, BadFilling)
            self.assertIs(raised(lambda: find_row(form, first, None)).__class__, BadFilling)
            self.assertIs(raised(lambda: row_holds(form, first, None, None)).__class__, BadFilling)
            self.assertIs(raised(lambda: find_swap(form, (0, 0), None)).__class__, BadEdit)
            self.assertIs(raised(lambda: find_stuck(form, None)).__class__, BadEdit)

    def test_unsettled_forms(self):
        for form in UNSETTLED[::5] + [T, P, Q, V, C, TURNING_3000]:
            found = naive_more.find_unsettled(form)
            if found is None:
                continue
            first = naive.all_fillings(form)[0]
            for call in (lambda: led_to(form, first, ()), lambda: find_row(form, first, first), lambda: rooms(form),
                         lambda: row_holds(form, first, first, None), lambda: find_swap(form, (0, 0), (0, 1)),
                         lambda: find_stuck(form, (0, 0))):
                error = raised(call)
                self.assertIs(error.__class__, Unsettled)
                self.assertTrue(same((error.begun, error.edit), found))
            self.assertIs(raised(lambda: led_to(form, first, None)).__class__, BadEdits)
            self.assertIs(raised(lambda: find_stuck(form, None)).__class__, BadEdit)
            self.assertIs(raised(lambda: find_row(form, first, None)).__class__, BadFilling)

    def test_the_limit(self):
        for form in (S, U, TWINS, NO_LINKS):
            many = len(naive.reach(form, naive.asked(form)))
            first = naive.all_fillings(form)[0]
            for call in (lambda: led_to(form, first, ()), lambda: find_row(form, first, first), lambda: rooms(form),
                         lambda: row_holds(form, first, first, None), lambda: find_swap(form, (0, 0), (0, 1)),
                         lambda: find_stuck(form, (0, 0)), lambda: find_unsettled(form)):
                for limit in (many - 1, many):
                    with mock.patch("echofields.reaches.MAX_MOMENTS", limit):
                        self.assertIs(raised(call).__class__ is TooManyMoments, limit < many)

    def test_nothing_is_changed(self):
        values = [[0, 1], [(0, 1)], {"a": [0]}, (0, [1]), ["row", (), []], ("closed", [(0, 0)]), GREAT]
        before = duplicate(values)
        for value in values:
            raised(lambda: led_to(S, (0, 0), value))
            raised(lambda: find_row(S, value, value))
            raised(lambda: find_swap(S, value, value))
            self.assertIs(row_holds(S, (0, 0), (1, 1), value), False)
        self.assertTrue(same(values, before))


if __name__ == "__main__":
    unittest.main()
