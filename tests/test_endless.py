"""[B3]: runs that are endless, and heights."""

import unittest

from echofields.endless import endless_holds, find_endless
from tests import checks, naive
from tests.checks import COPIED, IDLING, ONE_LINK, QUIET
from tests.samples import (
    ANY_VALUES, CALM_3000, FULL, GREAT, LONE, NO_LINKS, P, RESTING_3000, S, T, TURNING_3000, TWINS, U, V, VERY_GREAT,
    duplicate, same,
)

# Field 0 sets field 2, which goes round with field 1.
AHEAD = ((2, 3, 2), ((0, 2, (1, 1), 2), (1, 2, (1, 0, 1), 0), (2, 1, (0, 1), 0)))
# Field 1 has to leave the value that the edit gives it before the ring begins.
LEAVING = ((3, 3, 2), ((1, 2, (0, 1, 1), 0), (2, 1, (2, 0), 0)))
ROUND = ("endless", (0, 0), (1, 1), (), (1, 0, 1, 0))


class FindEndlessTest(unittest.TestCase):
    def test_against_the_words(self):
        checks.check_found(self, find_endless, naive.find_endless, endless_holds, naive.endless_holds)

    def test_as_written(self):
        self.assertEqual(find_endless(T), ROUND)
        self.assertEqual(find_endless(T, calm=True), ("heights", ()))
        self.assertEqual(find_endless(V), ("heights", tuple(sorted(naive.heights(naive.reach(V, naive.asked(V))).items()))))

    def test_heights_told_in_full(self):
        self.assertEqual(find_endless(ONE_LINK), ("heights", (
            ((0, (0, 0), (), ()), 0), ((0, (0, 0), (), (0,)), 0), ((0, (0, 0), (0,), ()), 1),
            ((0, (0, 1), (), ()), 0), ((0, (0, 1), (), (0,)), 0), ((0, (0, 1), (0,), ()), 1),
            ((0, (1, 0), (), ()), 0), ((0, (1, 0), (0,), ()), 1),
            ((0, (1, 1), (), ()), 0), ((0, (1, 1), (), (0,)), 0), ((0, (1, 1), (0,), ()), 1),
            ((1, (0, 0), (), ()), 0), ((1, (0, 1), (), ()), 0), ((1, (1, 0), (), ()), 0), ((1, (1, 1), (), ()), 0),
        )))
        self.assertEqual(find_endless(LONE), ("heights", tuple(((0, (value,), (), ()), 0) for value in range(6))))
        self.assertEqual(find_endless(P)[1][1], ((0, (0, 0), (0, 1), ()), 2))

    def test_heights_count_the_longest_order(self):
        rows = dict(find_endless(TWINS)[1])
        self.assertEqual(rows[(0, (1, 0), (0, 1), ())], 2)
        rows = dict(find_endless(U)[1])
        self.assertEqual(rows[(0, (1, 0), (0,), ())], 2)
        self.assertEqual(rows[(0, (1, 1), (0,), ())], 1)

    def test_the_least_of_several_beginnings(self):
        form = ((2, 2, 2), tuple((link[0] + 1, link[1] + 1) + link[2:] for link in T[1]))
        self.assertEqual(find_endless(form), ("endless", (0, 0, 0), (2, 1), (), (1, 0, 1, 0)))

    def test_a_ring_behind_an_order(self):
        self.assertEqual(find_endless(AHEAD), ("endless", (0, 0, 0), (0, 1), (0,), (2, 1, 2, 1)))
        self.assertEqual(find_endless(LEAVING), ("endless", (0, 0, 0), (1, 1), (0, 1), (0, 1, 0, 1)))

    def test_of_equal_rings_the_smallest(self):
        # The once links stay pending all along the ring, so link 2 has to come in first.
        form = ((2, 2), T[1] + tuple(link[:3] + (1,) for link in T[1]))
        self.assertEqual(find_endless(form), ("endless", (0, 0), (1, 1), (1,), (0, 1, 0, 1)))
        twice = ((2, 2), T[1] + T[1])
        self.assertTrue(same(find_endless(twice), naive.find_endless(twice)))

    def test_orders_ahead_of_rings_are_told(self):
        ahead = [find_endless(form, calm=calm) for form in checks.MIXED for calm in (False, True)]
        lengths = {len(value[3]) for value in ahead if value[0] == "endless"}
        self.assertGreaterEqual(lengths, {0, 1, 2, 3})

    def test_calm_beginnings_answer_otherwise(self):
        words = {(find_endless(form)[0], find_endless(form, calm=True)[0]) for form in checks.MIXED}
        self.assertEqual(words, {("endless", "endless"), ("endless", "heights"), ("heights", "heights")})

    def test_great_forms(self):
        value = find_endless(RESTING_3000)
        self.assertEqual((value[0], len(value[1])), ("heights", 3000))
        self.assertTrue(same(value, naive.find_endless(RESTING_3000)))
        self.assertIs(endless_holds(RESTING_3000, value), True)
        value = find_endless(TURNING_3000)
        self.assertTrue(same(value, naive.find_endless(TURNING_3000)))
        self.assertIs(endless_holds(TURNING_3000, value), True)
        self.assertTrue(same(find_endless(CALM_3000, calm=True), naive.find_endless(CALM_3000, True)))
        self.assertTrue(same(find_endless(FULL), naive.find_endless(FULL)))

    def test_the_limit(self):
        checks.check_limit(self, lambda form, calm: find_endless(form, calm=calm))
        for value in (None, ROUND, ("heights", ())):
            checks.check_limit(self, lambda form, calm: endless_holds(form, value, calm=calm))
        checks.check_great(self, find_endless, endless_holds)


class EndlessHoldsTest(unittest.TestCase):
    def check(self, form, value, expected, calm=False):
        self.assertIs(naive.endless_holds(form, value, calm), expected)
        self.assertIs(endless_holds(form, value, calm=calm), expected)

    def test_variants_of_evidence(self):
        cases = [
            (T, ROUND, False), (T, ROUND, True), (T, ("endless", (0, 1), (0, 1), (0, 1), (0, 1, 0, 1)), False),
            (ONE_LINK, find_endless(ONE_LINK), False), (COPIED, find_endless(COPIED, calm=True), True),
            (U, find_endless(U, calm=True), True), (LONE, find_endless(LONE), False), (T, ("heights", ()), True),
        ]
        checks.check_judged(self, endless_holds, naive.endless_holds, cases)

    def test_orders_and_rings_of_any_size(self):
        for order in ((), (1,), (1, 0), (1, 0, 1, 0, 1)):
            for ring in ((), (1, 0, 1, 0), (0, 1, 0, 1), (1, 0, 1, 0) * 3, (0, 1, 0, 1) * 7, (1, 0), (0, 1, 0)):
                good = ring != () and len(ring) % 4 == 0 and ring[0] == (1, 0)[len(order) % 2]
                self.check(T, ("endless", (0, 0), (1, 1), order, ring), good)

    def test_3000_links_and_3001(self):
        one = ("endless", (0, 0), (1, 1))
        self.check(T, one + ((1, 0) * 1500, (1, 0) * 1500), True)
        self.check(T, one + ((1, 0) * 1500 + (1,), (0, 1, 0, 1)), False)
        self.check(T, one + ((1, 0) * 1500 + (1, 0, 1, 0), (1, 0, 1, 0)), False)
        self.check(T, one + ((), (1, 0) * 1502), False)
        # Link 2 of this form is pending behind the order, until it fires once in the ring, which is pending again then.
        ahead = (1, 0, 1)
        self.check(IDLING, one + (ahead, (0, 1, 0, 1)), True)
        for many in (5, 2997, 3000, 3001):
            idle = many % 4
            ring = (0, 1, 0, 1) * (many // 4 - idle) + (2, 0, 1, 0, 1) * idle
            self.assertEqual(len(ring), many)
            self.check(IDLING, one + (ahead, ring), many <= 3000)

    def test_only_asked_beginnings(self):
        self.check(T, ROUND, True)
        self.check(T, ROUND, False, calm=True)
        form = ((2, 2, 2), T[1] + ((2, 0, (None, 1), 0),))
        self.check(form, ("endless", (0, 0, 0), (1, 1), (), (1, 0, 1, 0)), True)
        self.check(form, ("endless", (0, 0, 0), (1, 1), (), (1, 0, 1, 0)), False, calm=True)

    def test_beginnings_that_are_not_the_least(self):
        self.check(T, ("endless", (0, 1), (0, 1), (), (0, 1, 0, 1)), True)
        self.check(T, ("endless", (1, 1), (1, 0), (), (1, 0, 1, 0)), True)
        self.check(T, ("endless", (0, 0), (0, 1), (), (0, 1, 0, 1)), False)

    def test_greater_heights(self):
        for form in (ONE_LINK, S, P, U, TWINS, NO_LINKS):
            rows = find_endless(form)[1]
            for more in (1, GREAT, VERY_GREAT):
                self.check(form, ("heights", tuple((moment, height + more) for moment, height in rows)), True)
                self.check(form, ("heights", tuple((moment, height * more) for moment, height in rows)), True)
            self.check(form, ("heights", tuple((moment, height - 1) for moment, height in rows)), False)
            self.check(form, ("heights", tuple((moment, -height) for moment, height in rows)), form is NO_LINKS)
            self.check(form, ("heights", tuple((moment, 7) for moment, height in rows)), form is NO_LINKS)

    def test_each_height_falls(self):
        rows = dict(find_endless(ONE_LINK)[1])
        for moment in rows:
            for height in (0, 1, 2, VERY_GREAT):
                changed = tuple(sorted({**rows, moment: height}.items()))
                low = moment[2] != () and height == 0
                needed = moment[2] == () and height > 0 and any(
                    moment in naive.steps(ONE_LINK, other) for other in rows)
                self.check(ONE_LINK, ("heights", changed), not low and not needed)

    def test_moments_that_are_not_reached(self):
        rows = find_endless(ONE_LINK)[1]
        more = ((1, (0, 0), (), (0,)), 5)
        self.check(ONE_LINK, ("heights", tuple(sorted(rows + (more,)))), True)
        lonely = ((1, (0, 0), (0,), ()), 5)
        self.check(ONE_LINK, ("heights", tuple(sorted(rows + (lonely,)))), False)
        self.check(ONE_LINK, ("heights", tuple(sorted(rows + (lonely, more)))), False)
        self.check(ONE_LINK, ("heights", tuple(sorted(rows + (lonely, (more[0], 4))))), True)
        self.check(ONE_LINK, ("heights", tuple(sorted(rows + (((1, (0, 2), (), ()), 0),)))), False)
        self.check(T, ("heights", (((0, (0, 0), (), ()), 0),)), True, calm=True)

    def test_moments_told_twice(self):
        rows = find_endless(ONE_LINK)[1]
        self.check(ONE_LINK, ("heights", rows[:1] + ((rows[0][0], 1),) + rows[1:]), False)
        self.check(ONE_LINK, ("heights", rows[:2] + ((rows[2][0], 2),) + rows[2:]), False)

    def test_3000_rows_and_3001(self):
        for many in (2999, 3000, 3001):
            rows = tuple((moment, len(moment[2])) for moment in checks.quiet_moments(many))
            self.assertEqual(len(rows), many)
            self.check(QUIET, ("heights", rows), many <= 3000)
            self.check(QUIET, ("heights", rows[1:]), False)

    def test_runs_that_go_on_have_no_heights(self):
        moments = sorted(naive.reach(T, naive.asked(T)))
        for high in (lambda place: 0, lambda place: place, lambda place: 100 - place):
            self.check(T, ("heights", tuple((moment, high(place)) for place, moment in enumerate(moments))), False)

    def test_other_values(self):
        values = [
            list(ROUND), ROUND + ((),), ROUND[:4], ROUND[1:], ("Endless",) + ROUND[1:], ("heights",) + ROUND[1:],
            ("endless", ()), ("heights",), ("heights", (), ()), ["heights", ()], ("heights", []), ("heights", {}),
            ("endless", [0, 0], (1, 1), (), (1, 0, 1, 0)), ("endless", (0, 0), [1, 1], (), (1, 0, 1, 0)),
            ("endless", (0, 0), (1, 1), [], (1, 0, 1, 0)), ("endless", (0, 0), (1, 1), (), [1, 0, 1, 0]),
            ("endless", (0, 0), (1, True), (), (1, 0, 1, 0)), ("endless", (0, False), (1, 1), (), (1, 0, 1, 0)),
            ("endless", (0, 0), (1, 1), (), (True, False, True, False)), ("endless", (0, 0), (1, 1), (), ()),
            ("endless", (0, 0), (1, 1), (True,), (0, 1, 0, 1)), ("endless", (1, 1), (0, 0), (), (1, 0, 1, 0)),
        ]
        for value in values + ANY_VALUES:
            before = duplicate(value)
            self.check(T, value, False)
            self.assertTrue(same(value, before))


if __name__ == "__main__":
    unittest.main()
