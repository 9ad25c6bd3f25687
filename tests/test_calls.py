"""How much is done to judge evidence, told by how many functions are called: so no clock decides.

Very many values are asked one after another, also such of the greatest size, so judging them must not take long.
"""

import sys
import unittest
from unittest import mock

from echofields.cures import cures_hold, find_cures
from echofields.echoes import find_overruled, find_uncalm, overruled_holds, uncalm_holds
from echofields.endless import endless_holds, find_endless
from echofields.errors import TooManyMoments
from echofields.forms import field_ring, ring_holds
from echofields.likeness import difference_holds, find_difference
from echofields.parting import find_parting, parting_holds
from echofields.reaches import _most_edited, beginnings, check_reach, check_reach_at, reached
from echofields.settled import find_row, row_holds
from echofields.telling import find_telling, telling_holds
from tests import checks, naive, naive_more
from tests.samples import ALSO_3001, ANY_VALUES, CALM_3000, FORMS, JUST_3001, RESTING_3000, S, T, TURNING_3000, U, raised

# The moments of field 0 are those of all pairs of a set of pending links and a set of spent ones.
STATES = ((2, 2), ((0, 1, (None, None), 1),) * 6)
RINGED = ((2, 2, 2, 2), ((0, 1, (1, 0), 1), (1, 2, (1, 0), 1), (2, 0, (1, 0), 1)))
JUDGED = (
    (find_endless, endless_holds), (find_parting, parting_holds), (find_uncalm, uncalm_holds),
    (find_overruled, overruled_holds),
)
COPIES = ((3, 3), ((0, 1, (0, 1, 2), 0), (1, 0, (0, 1, 2), 0)))


def many_calls(call):
    """Return how many functions written in Python a call calls."""
    many = 0

    def note(frame, event, passed):
        nonlocal many
        many += event == "call"

    sys.setprofile(note)
    try:
        call()
    finally:
        sys.setprofile(None)
    return many


def all_states():
    """Return the 2920 moments of STATES with edited field 0, or with nothing pending and nothing spent."""
    sets = [tuple(link for link in range(6) if number >> link & 1) for number in range(64)]
    rows = naive.all_fillings(STATES)
    found = [(0, row, pending, spent) for row in rows for pending in sets for spent in sets if not set(pending) & set(spent)]
    return tuple(sorted(found + [(1, row, (), ()) for row in rows]))


class CallsTest(unittest.TestCase):
    def check(self, most, call):
        self.assertIs(call(), True)
        self.assertLess(many_calls(call), most)

    def test_evidence_of_2920_rows(self):
        moments = all_states()
        self.assertEqual(len(moments), 2920)
        heights = tuple((moment, len(moment[2])) for moment in moments)
        self.check(12000, lambda: endless_holds(STATES, ("heights", heights)))
        ends = tuple((moment, moment[1]) for moment in moments)
        self.check(30000, lambda: parting_holds(STATES, ("ends", ends)))
        self.check(18000, lambda: uncalm_holds(STATES, ("closed", moments)))
        rows = tuple(sorted((moment[1][moment[0]], moment) for moment in moments))
        self.check(25000, lambda: overruled_holds(STATES, ("closed", rows)))
        self.check(14000, lambda: cures_hold(STATES, "once", ((((), heights),), ())))
        other = (STATES[0], ((0, 1, (1, 0), 0), (1, 0, (0, 1), 0)))
        ring = ((), (1, 0, 1, 0))
        self.check(12000, lambda: difference_holds(other, STATES, ("endless", (0, 0), (1, 1), 0, *ring, heights)))

    def test_orders_of_3000_links(self):
        long, short = (1, 0, 1, 0) * 750, (1, 0, 1, 0)
        self.check(150, lambda: endless_holds(T, ("endless", (0, 0), (1, 1), long, long)))
        self.assertLess(many_calls(lambda: parting_holds(T, ("orders", (0, 0), (1, 1), long, short))), 150)
        order = checks.whirling_order(3000, 0)
        self.check(200, lambda: overruled_holds(checks.WHIRL, ("order", (0, 0), (0, 1), order)))

    def test_evidence_of_small_forms(self):
        for (find, holds), most in zip(JUDGED, (1000, 2200, 150, 150)):
            value = find(RINGED)
            self.check(most, lambda: holds(RINGED, value))

    def test_values_that_are_no_evidence(self):
        for form in FORMS[:-1] + [RINGED]:
            for value in ANY_VALUES + [("heights", ()), ("ends", ()), ("closed", ()), ("order", 0, 0, 0)]:
                for _, holds in JUDGED:
                    self.assertIs(holds(form, value), False)
                self.assertLess(many_calls(lambda: ring_holds(form, value)), 60)
        for value in (None, True, (), "heights", ("endless", 0, 0, 0, 0), {"a": 0}, [0]):
            for _, holds in JUDGED:
                self.assertLess(many_calls(lambda: holds(RINGED, value)), 60)
            self.assertLess(many_calls(lambda: cures_hold(RINGED, "out", value)), 60)
            self.assertLess(many_calls(lambda: cures_hold(RINGED, "once", value)), 120)
            self.assertLess(many_calls(lambda: difference_holds(RINGED, RINGED, value)), 80)
            self.assertLess(many_calls(lambda: telling_holds(RINGED, (0, 1), 2, value)), 40)
            self.assertLess(many_calls(lambda: row_holds(S, (0, 0), (1, 1), value)), 200)
            self.assertLess(many_calls(lambda: row_holds(COPIES, (0, 0), (1, 1), value)), 500)

    def test_forms_with_very_many_moments(self):
        for form in (RESTING_3000, TURNING_3000):
            for _, holds in JUDGED:
                self.assertLess(many_calls(lambda: holds(form, None)), 6000)

    def test_small_evidence_of_the_other_functions(self):
        value = find_cures(T, "out")
        self.check(1000, lambda: cures_hold(T, "out", value))
        value = find_difference(T, U)
        self.check(300, lambda: difference_holds(T, U, value))
        value = find_row(S, (0, 0), (1, 1))
        self.check(600, lambda: row_holds(S, (0, 0), (1, 1), value))
        value = find_telling(S, (1,), 0)
        self.check(60, lambda: telling_holds(S, (1,), 0, value))
        value = field_ring(T)
        self.check(40, lambda: ring_holds(T, value))


class BoundTest(unittest.TestCase):
    """How many moments can be reached is mostly told without going through them."""

    def test_never_more_are_reached(self):
        for form in checks.MIXED + FORMS + [RESTING_3000, TURNING_3000, STATES, RINGED]:
            found = naive.reach(form, naive.asked(form))
            for field in range(len(form[0])):
                self.assertGreaterEqual(_most_edited(form, field), sum(moment[0] == field for moment in found))

    def test_of_states_as_many_as_can_be(self):
        self.assertEqual([_most_edited(STATES, field) for field in (0, 1)], [2916, 4])
        self.assertEqual([_most_edited(((2, 2), ()), field) for field in (0, 1)], [4, 4])
        self.assertEqual([_most_edited(T, field) for field in (0, 1)], [16, 16])
        self.assertEqual([_most_edited(RINGED, field) for field in range(4)], [432, 432, 432, 16])

    def test_nothing_is_gone_through_where_that_tells_enough(self):
        with mock.patch("echofields.reaches.codes_from", side_effect=AssertionError):
            for form in (T, S, RINGED, STATES):
                for calm in (False, True):
                    self.assertIs(check_reach(form, calm), None)

    def test_it_decides_nothing_alone(self):
        for form in (JUST_3001, ALSO_3001, CALM_3000):
            self.assertIs(raised(lambda: check_reach(form, False)).__class__, TooManyMoments)
            self.assertIs(raised(lambda: check_reach(form, True)), None)
        for form in (RESTING_3000, TURNING_3000):
            self.assertGreater(sum(_most_edited(form, field) for field in range(4)), 3000)
            self.assertIs(raised(lambda: check_reach(form, False)), None)

    def test_one_beginning(self):
        for beginning in (((0, 0), (0, 1)), ((0, 1), (0, 1)), ((0, 0), (0, 0)), ((0, 0), (1, 1)), ((1, 1), (1, 0))):
            many = len(naive.reach(STATES, [beginning]))
            for limit in {1, 4, 10, many - 1, many} - {0}:
                with mock.patch("echofields.reaches.MAX_MOMENTS", limit):
                    error = raised(lambda: check_reach_at(STATES, *beginning))
                    self.assertIs(error.__class__ is TooManyMoments, limit < many)

    def test_fields_that_are_gone_through_one_by_one(self):
        for form in checks.MIXED[::3] + [RINGED, naive_more.left_out(RESTING_3000, (0, 5))]:
            many = len(naive.reach(form, naive.asked(form)))
            most = sum(_most_edited(form, field) for field in range(len(form[0])))
            for limit in {0, many // 2, many - 1, many, (many + most) // 2, most - 1, most}:
                with mock.patch("echofields.reaches.MAX_MOMENTS", limit):
                    self.assertIs(raised(lambda: check_reach(form, False)).__class__ is TooManyMoments, limit < many)
                    self.assertIs(raised(lambda: reached(form)).__class__ is TooManyMoments, limit < many)
        self.assertEqual(len(beginnings(RINGED)), 128)


if __name__ == "__main__":
    unittest.main()
