"""[B5] and [B6]: ends that are not calm, and edits that are overruled."""

import unittest

from echofields.echoes import find_overruled, find_uncalm, overruled_holds, uncalm_holds
from tests import checks, naive
from tests.checks import COPIED, ONE_LINK, QUIET, WHIRL, whirling_order
from tests.samples import (
    ANY_VALUES, C, CALM_3000, FULL, LONE, NO_LINKS, P, RESTING_3000, S, T, TURNING_3000, U, V, duplicate, same,
)

UNCALM = ("order", (0, 0), (0, 0), ())
OVERRULED = ("order", (0, 1), (0, 1), (0, 1, 0, 1))
# The link wishes nothing, so each filling is calm.
FEW = ((2, 2), ((0, 1, (None, None), 1),))
# Link 1 sets field 0 back once link 0 has set field 1, unless link 2 has set it back before.
RACE = ((2, 2), ((0, 1, (None, 1), 0), (1, 0, (None, 0), 0), (0, 1, (None, 0), 1)))


class FindUncalmTest(unittest.TestCase):
    def test_against_the_words(self):
        checks.check_found(self, find_uncalm, naive.find_uncalm, uncalm_holds, naive.uncalm_holds)

    def test_as_written(self):
        self.assertEqual(find_uncalm(P), UNCALM)
        # No filling of T is calm; of S only those are not that have field 0 at 1 and field 1 below 2.
        self.assertEqual(find_uncalm(T), UNCALM)
        self.assertEqual(find_uncalm(S), ("order", (1, 0), (0, 1), ()))
        # Whoever edits field 1 of S away from 2 sets off nothing.
        self.assertEqual(find_uncalm(S, calm=True), ("order", (1, 2), (1, 0), ()))
        self.assertEqual(find_uncalm(C, calm=True), ("order", (0, 0, 0), (0, 1), (0, 1, 2)))

    def test_moments_told_in_full(self):
        self.assertEqual(find_uncalm(LONE), ("closed", tuple((0, (value,), (), ()) for value in range(6))))
        self.assertEqual(find_uncalm(T, calm=True), ("closed", ()))
        self.assertEqual(find_uncalm(FEW), ("closed", (
            (0, (0, 0), (), ()), (0, (0, 0), (), (0,)), (0, (0, 0), (0,), ()),
            (0, (0, 1), (), ()), (0, (0, 1), (), (0,)), (0, (0, 1), (0,), ()),
            (0, (1, 0), (), ()), (0, (1, 0), (), (0,)), (0, (1, 0), (0,), ()),
            (0, (1, 1), (), ()), (0, (1, 1), (), (0,)), (0, (1, 1), (0,), ()),
            (1, (0, 0), (), ()), (1, (0, 1), (), ()), (1, (1, 0), (), ()), (1, (1, 1), (), ()),
        )))

    def test_calm_beginnings_answer_otherwise(self):
        words = {(find_uncalm(form)[0], find_uncalm(form, calm=True)[0]) for form in checks.MIXED}
        self.assertEqual(words, {("order", "order"), ("order", "closed"), ("closed", "closed")})

    def test_great_forms(self):
        for form, calm in ((RESTING_3000, False), (TURNING_3000, False), (CALM_3000, True), (FULL, True)):
            value = find_uncalm(form, calm=calm)
            self.assertIs(uncalm_holds(form, value, calm=calm), True)
            self.assertEqual(value, naive.find_uncalm(form, calm))
        self.assertEqual(find_uncalm(QUIET), ("closed", tuple(checks.quiet_moments(648))))

    def test_the_limit(self):
        checks.check_limit(self, lambda form, calm: find_uncalm(form, calm=calm))
        for value in (None, UNCALM, ("closed", ())):
            checks.check_limit(self, lambda form, calm: uncalm_holds(form, value, calm=calm))
        checks.check_great(self, find_uncalm, uncalm_holds)


class UncalmHoldsTest(unittest.TestCase):
    def check(self, form, value, expected, calm=False):
        self.assertIs(naive.uncalm_holds(form, value, calm), expected)
        self.assertIs(uncalm_holds(form, value, calm=calm), expected)

    def test_variants_of_evidence(self):
        cases = [
            (P, UNCALM, False), (P, UNCALM, True), (S, ("order", (1, 0), (1, 1), ()), False),
            (LONE, find_uncalm(LONE), False),
            (WHIRL, find_uncalm(WHIRL), False), (WHIRL, ("order", (0, 0), (0, 1), (2, 0, 1, 0, 2, 1)), False),
            (T, ("closed", ()), True), (FEW, find_uncalm(FEW), False), (FEW, find_uncalm(FEW, calm=True), True),
        ]
        checks.check_judged(self, uncalm_holds, naive.uncalm_holds, cases)

    def test_3000_links_and_3001(self):
        for many in (18, 2999, 3000, 3001):
            for end in (0, 1):
                order = whirling_order(many, end)
                self.check(WHIRL, ("order", (0, 0), (0, 1), order), many <= 3000)
                self.check(WHIRL, ("order", (0, 0), (0, 1), order[:-1]), False)
                self.check(WHIRL, ("order", (0, 0), (0, 1), order + (0,)), False)

    def test_calm_ends_are_no_evidence(self):
        self.check(S, ("order", (0, 0), (0, 1), (0,)), False)
        self.check(S, ("order", (0, 0), (0, 1), ()), False)
        self.check(S, ("order", (1, 2), (1, 0), ()), True)
        self.check(S, ("order", (1, 2), (1, 0), ()), True, calm=True)
        self.check(S, ("order", (1, 1), (1, 0), ()), True)
        self.check(S, ("order", (1, 1), (1, 0), ()), False, calm=True)

    def test_moments_that_are_not_reached(self):
        rows = find_uncalm(FEW)[1]
        more = (1, (0, 0), (), (0,))
        self.check(FEW, ("closed", tuple(sorted(rows + (more,)))), True)
        self.check(FEW, ("closed", tuple(sorted(rows + ((1, (0, 0), (0,), ()),)))), False)
        self.check(FEW, ("closed", tuple(sorted(rows + (more, (1, (0, 0), (0,), ()))))), True)
        self.check(ONE_LINK, ("closed", tuple(sorted(naive.reach(ONE_LINK, naive.asked(ONE_LINK))))), False)

    def test_only_moments_that_are_over_need_be_calm(self):
        # No filling of T is calm, so no run is asked for.
        self.check(T, ("closed", ((0, (1, 1), (), ()),)), False, calm=True)
        ring = tuple(sorted(naive.below(naive.reach(T, naive.asked(T)), (1, (0, 1), (1,), ()))))
        self.check(T, ("closed", ring), True, calm=True)
        self.check(T, ("closed", ring), False)

    def test_3000_moments_and_3001(self):
        for many in (2999, 3000, 3001):
            rows = tuple(checks.quiet_moments(many))
            self.assertEqual(len(rows), many)
            self.check(QUIET, ("closed", rows), many <= 3000)
            self.check(QUIET, ("closed", rows[1:]), False)
            self.check(QUIET, ("closed", rows[::-1]), False)

    def test_other_values(self):
        values = [
            list(UNCALM), UNCALM + ((),), UNCALM[:3], UNCALM[1:], ("Order",) + UNCALM[1:], ("closed",) + UNCALM[1:],
            ("closed",), ("closed", (), ()), ["closed", ()], ("closed", []), ("closed", {}), ("closed", ()),
            ("order", [0, 0], (0, 0), ()), ("order", (0, 0), [0, 0], ()), ("order", (0, 0), (0, 0), []),
            ("order", (0, False), (0, 0), ()), ("order", (0, 0), (0, False), ()), ("order", (0, 0), (0, 0), (0,)),
            ("order", (0, 0), (0, 1), (False, 1)), ("order", (0, 0), (0, 1), (0, True)),
            ("order", (0, 0), (0, 0), None), ("order", (0, 0), (0, 2), ()), ("order", (0, 2), (0, 0), ()),
        ]
        for value in values + ANY_VALUES:
            before = duplicate(value)
            self.check(P, value, False)
            self.assertTrue(same(value, before))


class FindOverruledTest(unittest.TestCase):
    def test_against_the_words(self):
        checks.check_found(self, find_overruled, naive.find_overruled, overruled_holds, naive.overruled_holds)

    def test_as_written(self):
        self.assertEqual(find_overruled(V), OVERRULED)
        self.assertEqual(find_overruled(RACE), ("order", (0, 0), (0, 1), (0, 1, 0, 2)))
        self.assertEqual(find_overruled(C), ("order", (0, 0, 0), (1, 1), (2, 0, 1, 2, 0)))

    def test_pairs_told_in_full(self):
        self.assertEqual(find_overruled(LONE), ("closed", tuple((value, (0, (value,), (), ())) for value in range(6))))
        self.assertEqual(find_overruled(ONE_LINK), ("closed", (
            (0, (0, (0, 0), (), ())), (0, (0, (0, 0), (), (0,))), (0, (0, (0, 0), (0,), ())),
            (0, (0, (0, 1), (), ())), (0, (0, (0, 1), (), (0,))), (0, (0, (0, 1), (0,), ())),
            (0, (1, (0, 0), (), ())), (0, (1, (1, 0), (), ())),
            (1, (0, (1, 0), (), ())), (1, (0, (1, 0), (0,), ())),
            (1, (0, (1, 1), (), ())), (1, (0, (1, 1), (), (0,))), (1, (0, (1, 1), (0,), ())),
            (1, (1, (0, 1), (), ())), (1, (1, (1, 1), (), ())),
        )))
        self.assertEqual(find_overruled(T, calm=True), ("closed", ()))

    def test_a_moment_may_stand_with_several_values(self):
        # The edited field is on its way round in T, so the moments of one ring are those of both values.
        rows = find_overruled(T)[1]
        self.assertEqual(len(rows), len(set(rows)))
        self.assertGreater(len(rows), len({moment for _, moment in rows}))

    def test_calm_beginnings_answer_otherwise(self):
        words = {(find_overruled(form)[0], find_overruled(form, calm=True)[0]) for form in checks.MIXED}
        self.assertEqual(words, {("order", "order"), ("order", "closed"), ("closed", "closed")})

    def test_great_forms(self):
        for form, calm in ((RESTING_3000, False), (TURNING_3000, False), (CALM_3000, True), (FULL, True)):
            value = find_overruled(form, calm=calm)
            self.assertIs(overruled_holds(form, value, calm=calm), True)
            self.assertEqual(value, naive.find_overruled(form, calm))
        self.assertEqual(find_overruled(QUIET), ("closed", tuple(quiet_pairs(648))))
        self.assertEqual(find_overruled(NO_LINKS)[0], "closed")

    def test_the_limit(self):
        checks.check_limit(self, lambda form, calm: find_overruled(form, calm=calm))
        for value in (None, OVERRULED, ("closed", ())):
            checks.check_limit(self, lambda form, calm: overruled_holds(form, value, calm=calm))
        checks.check_great(self, find_overruled, overruled_holds)


def quiet_pairs(many):
    return sorted((moment[1][moment[0]], moment) for moment in checks.quiet_moments(many))


class OverruledHoldsTest(unittest.TestCase):
    def check(self, form, value, expected, calm=False):
        self.assertIs(naive.overruled_holds(form, value, calm), expected)
        self.assertIs(overruled_holds(form, value, calm=calm), expected)

    def test_variants_of_evidence(self):
        cases = [
            (V, OVERRULED, False), (V, OVERRULED, True), (LONE, find_overruled(LONE), False),
            (V, ("order", (0, 1), (0, 1), (0, 1)), False), (ONE_LINK, find_overruled(ONE_LINK), False),
            (WHIRL, find_overruled(WHIRL), False), (COPIED, find_overruled(COPIED, calm=True), True),
            (T, ("closed", ()), True), (FEW, find_overruled(FEW), False), (U, find_overruled(U, calm=True), True),
        ]
        checks.check_judged(self, overruled_holds, naive.overruled_holds, cases)

    def test_3000_links_and_3001(self):
        for many in (18, 2999, 3000, 3001):
            for end in (0, 1):
                order = whirling_order(many, end)
                self.check(WHIRL, ("order", (0, 0), (0, 1), order), many <= 3000 and end == 0)
                self.check(WHIRL, ("order", (0, 0), (0, 1), order[:-1]), False)
                self.check(WHIRL, ("order", (0, 0), (0, 1), order + (0,)), False)

    def test_only_asked_beginnings(self):
        self.check(V, OVERRULED, True)
        self.check(V, OVERRULED, naive.is_calm(V, (0, 1)), calm=True)
        self.check(V, ("order", (0, 0), (0, 1), (0,)), False)
        self.check(WHIRL, ("order", (0, 0), (0, 1), (2, 0, 1, 0, 2, 1)), True)
        self.check(WHIRL, ("order", (0, 0), (0, 1), (2, 0, 1, 0, 2, 1)), False, calm=True)

    def test_values_are_those_of_the_edits(self):
        form = ((2, 3), ())
        rows = find_overruled(form)[1]
        self.check(form, ("closed", rows), True)
        self.check(form, ("closed", tuple(sorted(rows + ((2, (1, (0, 2), (), ())),)))), False)
        for row in ((2, (0, (0, 2), (), ())), (3, (1, (0, 2), (), ())), (-1, (1, (0, 2), (), ())),
                    (0, (1, (0, 2), (), ())), (1, (0, (0, 2), (), ()))):
            self.check(form, ("closed", tuple(sorted(rows + (row,)))), False)

    def test_moments_that_are_not_reached(self):
        rows = find_overruled(ONE_LINK)[1]
        more = (0, (1, (0, 0), (), (0,)))
        self.check(ONE_LINK, ("closed", tuple(sorted(rows + (more,)))), True)
        self.check(ONE_LINK, ("closed", tuple(sorted(rows + ((0, (1, (0, 0), (0,), ())),)))), False)
        self.check(ONE_LINK, ("closed", tuple(sorted(rows + (more, (0, (1, (0, 0), (0,), ())))))), True)
        self.check(ONE_LINK, ("closed", tuple(sorted(rows + ((1, (1, (0, 0), (), (0,))),)))), False)

    def test_on_its_way_the_field_may_have_another_value(self):
        ring = naive.below(naive.reach(T, naive.asked(T)), (1, (0, 1), (1,), ()))
        for values in ((0,), (1,), (0, 1)):
            rows = tuple(sorted((value, moment) for value in values for moment in ring))
            self.check(T, ("closed", rows), True, calm=True)
            self.check(T, ("closed", rows), False)

    def test_18000_pairs_and_18001(self):
        for many in (3001, 17999, 18000, 18001):
            rows = tuple(quiet_pairs(many))
            self.assertEqual(len(rows), many)
            self.check(QUIET, ("closed", rows), many <= 18000)
            self.check(QUIET, ("closed", rows[1:]), False)
            self.check(QUIET, ("closed", rows[::-1]), False)

    def test_other_values(self):
        values = [
            list(OVERRULED), OVERRULED + ((),), OVERRULED[:3], OVERRULED[1:], ("Order",) + OVERRULED[1:],
            ("closed",) + OVERRULED[1:], ("closed",), ("closed", (), ()), ["closed", ()], ("closed", []), ("closed", {}),
            ("closed", ()), ("order", [0, 1], (0, 1), (0, 1, 0, 1)), ("order", (0, 1), [0, 1], (0, 1, 0, 1)),
            ("order", (0, 1), (0, 1), [0, 1, 0, 1]), ("order", (0, True), (0, 1), (0, 1, 0, 1)),
            ("order", (0, 1), (False, 1), (0, 1, 0, 1)), ("order", (0, 1), (0, True), (0, 1, 0, 1)),
            ("order", (0, 1), (0, 1), (0, 1, 0, True)), ("order", (0, 1), (0, 1), (0, 1, 0)), ("order", (0, 1), (0, 1), None),
            ("order", (0, 1), (0, 1), (0, 1, 0, 1, 0)), ("order", (0, 1), (0, 0), ()), ("order", (0, 1), (1, 1), ()),
        ]
        for value in values + ANY_VALUES:
            before = duplicate(value)
            self.check(V, value, False)
            self.assertTrue(same(value, before))


if __name__ == "__main__":
    unittest.main()
