"""[B4]: ends, and orders that part."""

import unittest

from echofields.parting import ends_of, find_parting, parting_holds
from tests import checks, naive
from tests.checks import COPIED, ONE_LINK, QUIET, WHIRL, whirling_order
from tests.samples import (
    ANY_VALUES, CALM_3000, FORMS, FULL, JUST_3001, LONE, P, Q, RESTING_3000, T, TURNING_3000, TWINS, U, duplicate, same,
)

PARTED = ("orders", (0, 0), (0, 1), (0, 1), (1, 0))
# From ((0, 0), (0, 1)) the whole orders of three links have one end, only (0, 1, 2, 1) has another one.
LONGER = ((2, 3), ((0, 1, (2, 2), 1), (1, 0, (0, 1, 0), 0), (0, 1, (1, 2), 3)))
# Field 0 sets field 1 by two links that differ where field 0 is not 0; only there no filling is calm.
FORKED = ((3, 2), ((0, 1, (None, 0, 0), 0), (0, 1, (None, 1, 1), 0)))


class EndsOfTest(unittest.TestCase):
    def test_against_the_words(self):
        for form in FORMS + checks.MIXED:
            for filling, edit in naive.asked(form)[::5]:
                found = naive.reach(form, [(filling, edit)])
                expected = naive.ends(found, naive.begin(form, filling, edit))
                self.assertTrue(same(ends_of(form, filling, edit), tuple(expected)))

    def test_as_written(self):
        self.assertEqual(ends_of(P, (0, 0), (0, 1)), ((1, 0), (1, 1)))
        self.assertEqual(ends_of(Q, (0, 0, 0), (0, 1)), ((1, 1, 0), (1, 1, 1)))
        self.assertEqual(ends_of(WHIRL, (0, 0), (0, 1)), ((0, 0), (1, 1)))

    def test_no_whole_order(self):
        self.assertEqual(ends_of(T, (0, 0), (1, 1)), ())
        self.assertEqual(ends_of(T, (0, 0), (1, 0)), ((0, 0),))

    def test_edits_that_change_nothing(self):
        for form in FORMS:
            for filling in naive.all_fillings(form)[:9]:
                self.assertEqual(ends_of(form, filling, (0, filling[0])), (filling,))

    def test_what_is_no_filling_or_no_edit(self):
        checks.check_beginning(self, ends_of)

    def test_the_limit(self):
        for form in checks.SMALL:
            for beginning in naive.asked(form)[::11]:
                checks.check_limit_at(self, lambda: ends_of(form, *beginning), form, beginning)

    def test_one_beginning_of_a_great_form(self):
        for form in (JUST_3001, CALM_3000, RESTING_3000):
            for filling, edit in naive.asked(form)[::37]:
                found = naive.reach(form, [(filling, edit)])
                self.assertEqual(list(ends_of(form, filling, edit)), sorted({row[1] for row in found if not row[2]}))


class FindPartingTest(unittest.TestCase):
    def test_against_the_words(self):
        checks.check_found(self, find_parting, naive.find_parting, parting_holds, naive.parting_holds)

    def test_as_written(self):
        self.assertEqual(find_parting(P), PARTED)
        self.assertEqual(find_parting(T)[1][0], ((0, (0, 0), (), ()), (0, 0)))
        self.assertEqual(find_parting(Q), ("orders", (0, 0, 0), (0, 1), (0, 1, 2), (0, 2, 1)))

    def test_ends_told_in_full(self):
        self.assertEqual(find_parting(ONE_LINK), ("ends", (
            ((0, (0, 0), (), ()), (0, 0)), ((0, (0, 0), (), (0,)), (0, 0)), ((0, (0, 0), (0,), ()), (0, 0)),
            ((0, (0, 1), (), ()), (0, 1)), ((0, (0, 1), (), (0,)), (0, 1)), ((0, (0, 1), (0,), ()), (0, 1)),
            ((0, (1, 0), (), ()), (1, 0)), ((0, (1, 0), (0,), ()), (1, 1)),
            ((0, (1, 1), (), ()), (1, 1)), ((0, (1, 1), (), (0,)), (1, 1)), ((0, (1, 1), (0,), ()), (1, 1)),
            ((1, (0, 0), (), ()), (0, 0)), ((1, (0, 1), (), ()), (0, 1)),
            ((1, (1, 0), (), ()), (1, 0)), ((1, (1, 1), (), ()), (1, 1)),
        )))
        self.assertEqual(find_parting(LONE), ("ends", tuple(((0, (row,), (), ()), (row,)) for row in range(6))))
        self.assertEqual(find_parting(T, calm=True), ("ends", ()))

    def test_moments_without_a_whole_order(self):
        self.assertEqual(find_parting(T), ("ends", (
            ((0, (0, 0), (), ()), (0, 0)), ((0, (0, 0), (0,), ()), None),
            ((0, (0, 1), (), ()), (0, 1)), ((0, (0, 1), (0,), ()), (0, 1)), ((0, (0, 1), (1,), ()), None),
            ((0, (1, 0), (), ()), (1, 0)), ((0, (1, 0), (0,), ()), (1, 0)), ((0, (1, 0), (1,), ()), None),
            ((0, (1, 1), (), ()), (1, 1)), ((0, (1, 1), (0,), ()), None),
            ((1, (0, 0), (), ()), (0, 0)), ((1, (0, 0), (0,), ()), None), ((1, (0, 0), (1,), ()), (0, 0)),
            ((1, (0, 1), (), ()), (0, 1)), ((1, (0, 1), (1,), ()), None),
            ((1, (1, 0), (), ()), (1, 0)), ((1, (1, 0), (1,), ()), None),
            ((1, (1, 1), (), ()), (1, 1)), ((1, (1, 1), (0,), ()), None), ((1, (1, 1), (1,), ()), (1, 1)),
        )))

    def test_the_other_order_may_be_longer(self):
        self.assertEqual(find_parting(LONGER), ("orders", (0, 0), (0, 1), (0, 2, 1), (0, 1, 2, 1)))

    def test_calm_beginnings_answer_otherwise(self):
        words = {(find_parting(form)[0], find_parting(form, calm=True)[0]) for form in checks.MIXED}
        self.assertEqual(words, {("orders", "orders"), ("orders", "ends"), ("ends", "ends")})

    def test_great_forms(self):
        for form, calm in ((RESTING_3000, False), (TURNING_3000, False), (CALM_3000, True)):
            value = find_parting(form, calm=calm)
            self.assertEqual(value[:3], self.least(form, calm))
            self.assertIs(parting_holds(form, value, calm=calm), True)
        self.assertTrue(same(find_parting(FULL), naive.find_parting(FULL)))
        value = find_parting(QUIET)
        self.assertEqual(value, ("ends", tuple((moment, moment[1]) for moment in checks.quiet_moments(648))))

    def least(self, form, calm):
        for filling, edit in naive.asked(form, calm):
            if len({row[1] for row in naive.reach(form, [(filling, edit)]) if not row[2]}) > 1:
                return ("orders", filling, edit)
        return None

    def test_the_limit(self):
        checks.check_limit(self, lambda form, calm: find_parting(form, calm=calm))
        for value in (None, PARTED, ("ends", ())):
            checks.check_limit(self, lambda form, calm: parting_holds(form, value, calm=calm))
        checks.check_great(self, find_parting, parting_holds)


class PartingHoldsTest(unittest.TestCase):
    def check(self, form, value, expected, calm=False):
        self.assertIs(naive.parting_holds(form, value, calm), expected)
        self.assertIs(parting_holds(form, value, calm=calm), expected)

    def test_variants_of_evidence(self):
        cases = [
            (P, PARTED, False), (P, ("orders", (1, 1), (0, 0), (1, 0), (0, 1)), False), (P, PARTED, True),
            (WHIRL, find_parting(WHIRL), False), (ONE_LINK, find_parting(ONE_LINK), False),
            (COPIED, find_parting(COPIED, calm=True), True), (LONE, find_parting(LONE), False),
            (T, ("ends", ()), True), (T, find_parting(T), False), (U, find_parting(U, calm=True), True),
        ]
        checks.check_judged(self, parting_holds, naive.parting_holds, cases)

    def test_orders_as_written(self):
        one = ("orders", (0, 0), (0, 1))
        self.check(P, one + ((0, 1), (1, 0)), True)
        self.check(P, one + ((1, 0), (0, 1)), True)
        self.check(P, one + ((0, 1), (0, 1)), False)
        self.check(P, one + ((0, 1), (1,)), False)
        self.check(P, one + ((0,), (1, 0)), False)
        self.check(P, one + ((0, 1), (1, 0, 0)), False)
        self.check(P, one + ((0, 1), (1, 1)), False)
        self.check(P, one + ((), ()), False)
        self.check(P, ("orders", (0, 0), (1, 1), (0, 1), (1, 0)), False)
        self.check(P, ("orders", (0, 0), (0, 0), (0, 1), (1, 0)), False)
        # In TWINS both orders have one end.
        self.check(TWINS, one + ((0, 1), (1, 0)), False)

    def test_3000_links_and_3001(self):
        for many in (18, 19, 2999, 3000, 3001, 3002):
            orders = [whirling_order(many, end) for end in (0, 1)]
            self.assertEqual([len(order) for order in orders], [many, many])
            ends = [naive.last(WHIRL, naive.begin(WHIRL, (0, 0), (0, 1)), order, most=9999)[1] for order in orders]
            self.assertEqual(ends, [(0, 0), (1, 1)])
            for one, other in (orders, orders[::-1], (orders[0], (0, 2, 1)), ((0, 2, 1), orders[0])):
                self.check(WHIRL, ("orders", (0, 0), (0, 1), one, other), many <= 3000)
            self.check(WHIRL, ("orders", (0, 0), (0, 1), orders[1], (0, 2, 1)), False)

    def test_only_asked_beginnings(self):
        self.check(P, PARTED, True)
        self.check(P, PARTED, False, calm=True)
        self.assertEqual(find_parting(P, calm=True), ("ends", ()))
        for filling, edit in naive.asked(FORKED):
            value = ("orders", filling, edit, (0, 1), (1, 0))
            parts = edit[0] == 0 and edit[1] not in (0, filling[0])
            self.check(FORKED, value, parts)
            self.check(FORKED, value, parts and filling[0] == 0, calm=True)

    def test_none_in_the_place_of_ends(self):
        rows = dict(find_parting(T)[1])
        for moment in rows:
            for end in naive.all_fillings(T) + [None]:
                changed = tuple(sorted(((row, rows[row]) for row in rows if row != moment)))
                changed = tuple(sorted(changed + ((moment, end),), key=lambda row: row[0]))
                value = ("ends", changed)
                self.assertIs(parting_holds(T, value), naive.parting_holds(T, value))

    def test_all_ends_are_none_but_where_runs_are_over(self):
        # A moment may have its own end with None behind it, but not None with an end behind it.
        self.check(ONE_LINK, ("ends", tuple((row, None) for row, _ in find_parting(ONE_LINK)[1])), False)
        rows = tuple((row, end if row[2] == () else None) for row, end in find_parting(ONE_LINK)[1])
        self.check(ONE_LINK, ("ends", rows), False)
        rows = tuple((row, end or (0, 0)) for row, end in find_parting(T)[1])
        self.check(T, ("ends", rows), True)
        rows = tuple((row, end or row[1]) for row, end in find_parting(T)[1])
        self.check(T, ("ends", rows), False)

    def test_moments_that_are_not_reached(self):
        rows = find_parting(ONE_LINK)[1]
        for more, good in ((((1, (1, 0), (), (0,)), (1, 0)), True), (((1, (1, 0), (), (0,)), (1, 1)), False),
                           (((1, (1, 0), (), (0,)), None), False), (((1, (1, 0), (0,), ()), (1, 1)), False)):
            self.check(ONE_LINK, ("ends", tuple(sorted(rows + (more,)))), good)
        both = (((1, (1, 0), (0,), ()), (1, 1)), ((1, (1, 1), (), (0,)), (1, 1)))
        self.check(ONE_LINK, ("ends", tuple(sorted(rows + both))), True)

    def test_3000_rows_and_3001(self):
        for many in (2999, 3000, 3001):
            rows = tuple((moment, moment[1]) for moment in checks.quiet_moments(many))
            self.assertEqual(len(rows), many)
            self.check(QUIET, ("ends", rows), many <= 3000)
            self.check(QUIET, ("ends", rows[:-1] + ((rows[-1][0], None),)), False)
            self.check(QUIET, ("ends", rows[1:]), False)

    def test_other_values(self):
        values = [
            list(PARTED), PARTED + ((),), PARTED[:4], PARTED[1:], ("Orders",) + PARTED[1:], ("ends",) + PARTED[1:],
            ("ends",), ("ends", (), ()), ["ends", ()], ("ends", []), ("ends", {}), ("ends", ()), ("orders", ()),
            ("orders", [0, 0], (0, 1), (0, 1), (1, 0)), ("orders", (0, 0), [0, 1], (0, 1), (1, 0)),
            ("orders", (0, 0), (0, 1), [0, 1], (1, 0)), ("orders", (0, 0), (0, 1), (0, 1), [1, 0]),
            ("orders", (0, False), (0, 1), (0, 1), (1, 0)), ("orders", (0, 0), (0, True), (0, 1), (1, 0)),
            ("orders", (0, 0), (0, 1), (False, 1), (1, 0)), ("orders", (0, 0), (0, 1), (0, 1), (True, 0)),
            ("orders", (0, 0), (0, 1), None, (1, 0)), ("orders", (0, 0), (0, 1), None, None),
        ]
        for value in values + ANY_VALUES:
            before = duplicate(value)
            self.check(P, value, False)
            self.assertTrue(same(value, before))


if __name__ == "__main__":
    unittest.main()
