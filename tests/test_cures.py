"""[F1] and [F2]: cures."""

import unittest
from unittest import mock

from echofields.cures import cures_hold, fewest_cure, find_cures, treated
from echofields.errors import BadLinks, NoWay, TooManyMoments
from tests import checks, naive, naive_last, naive_more
from tests.checks import IDLING, ONE_LINK, QUIET, WHIRL
from tests.samples import (
    ALSO_3001, ANY_VALUES, C, FORMS, FULL, JUST_3001, LONE, P, RESTING_3000, S, SOME_VALUES, T, TURNING_3000, TWINS, U,
    V, duplicate, is_among, raised, same, spoiled,
)

WAYS = ("out", "once")
NO_WAYS = ANY_VALUES + ["Out", "out ", "ou", "onc", ("out",), ["once"], {"out": 0}, "twice", b"out"]
# Two rings that have no link in common, so each cure has a link of both.
TWO_RINGS = ((2, 2, 2, 2), T[1] + tuple((source + 2, target + 2, table, guard) for source, target, table, guard in T[1]))
# From its beginnings 2799 moments are reached, and 1911 where all links are once links; more where only some are.
GROWING = (
    (3, 3, 2, 2),
    (
        (2, 1, (1, 2), 0), (3, 2, (0, 0), 0), (1, 2, (1, 1, 1), 0),
        (1, 2, (1, 0, 0), 1), (3, 1, (2, 0), 0), (2, 3, (0, 1), 0),
    ),
)
TURNING = naive.turning_forms(8, 40, most=100)


class TreatedTest(unittest.TestCase):
    def test_against_the_words(self):
        for form in FORMS + checks.MIXED[::5]:
            for way in WAYS:
                for links in naive_last.all_sets(form):
                    self.assertTrue(same(treated(form, way, links), naive_last.treated(form, way, links)))

    def test_as_written(self):
        self.assertEqual(treated(T, "once", (1,)), ((2, 2), ((0, 1, (1, 0), 0), (1, 0, (0, 1), 1))))
        self.assertEqual(treated(T, "out", (0,)), ((2, 2), ((1, 0, (0, 1), 0),)))
        self.assertEqual([link[3] for link in treated(FULL, "once", (0, 1, 2, 3, 4, 5))[1]], [1, 1, 3, 3, 3, 1])
        self.assertEqual(treated(FULL, "out", (0, 1, 2, 3, 4, 5)), (FULL[0], ()))
        self.assertEqual(treated(LONE, "out", ()), LONE)

    def test_what_is_no_way(self):
        for value in NO_WAYS:
            for links in ((), (0,), None, [0]):
                error = raised(lambda: treated(T, value, links))
                self.assertIs(error.__class__, NoWay)
                self.assertIs(error.given, value)

    def test_what_are_no_links(self):
        for form in (T, LONE, FULL):
            sets = naive_last.all_sets(form)
            for value in ANY_VALUES + spoiled((0, 1)) + [(1, 0), (0, 0), (-1,), (len(form[1]),), [0, 1]]:
                if not is_among(value, sets):
                    for way in WAYS:
                        error = raised(lambda: treated(form, way, value))
                        self.assertIs(error.__class__, BadLinks)
                        self.assertIs(error.given, value)

    def test_forms_with_too_many_moments_are_treated(self):
        for form in (JUST_3001, ALSO_3001):
            self.assertEqual(treated(form, "out", (0,)), naive_more.left_out(form, (0,)))


class FindCuresTest(unittest.TestCase):
    def test_against_the_words(self):
        sizes = set()
        for form in FORMS[:-1] + checks.MIXED[:20] + TURNING + [WHIRL, IDLING, TWO_RINGS]:
            for way in WAYS:
                value = find_cures(form, way)
                self.assertTrue(same(value, naive_last.find_cures(form, way)), form)
                self.assertIs(cures_hold(form, way, value), True)
                first = min([links for links, _ in value[0]], key=lambda links: (len(links), links))
                self.assertTrue(same(fewest_cure(form, way), first))
                sizes.add((way, len(first), len(value[0]) > 1, len(value[1]) > 1))
        for way in WAYS:
            self.assertGreaterEqual(sizes, {(way, 0, False, False), (way, 1, True, False), (way, 2, True, True)})

    def test_as_written(self):
        cures, others = find_cures(T, "out")
        self.assertEqual([links for links, _ in cures], [(0,), (1,)])
        self.assertEqual(others, (((), ("endless", (0, 0), (1, 1), (), (1, 0, 1, 0))),))
        self.assertEqual(fewest_cure(P, "out"), ())

    def test_forms_that_need_no_cure(self):
        for form in (S, P, U, V, LONE, QUIET):
            for way in WAYS:
                cures, others = find_cures(form, way)
                self.assertEqual([links for links, _ in cures], [()])
                self.assertEqual(others, ())
                self.assertEqual(fewest_cure(form, way), ())

    def test_two_rings(self):
        for way in WAYS:
            cures, others = find_cures(TWO_RINGS, way)
            self.assertEqual([links for links, _ in cures], [(0, 2), (0, 3), (1, 2), (1, 3)])
            self.assertEqual([links for links, _ in others], [(0, 1), (2, 3)])
            self.assertEqual(fewest_cure(TWO_RINGS, way), (0, 2))

    def test_each_set_with_a_cure_as_part_is_one(self):
        for form in TURNING[:10]:
            for way in WAYS:
                cures = [links for links, _ in find_cures(form, way)[0]]
                for links in naive_last.all_sets(form):
                    has_part = any(set(cure) <= set(links) for cure in cures)
                    self.assertIs(naive_last.is_cure(form, way, links), has_part)

    def test_great_forms(self):
        for form in (RESTING_3000, TURNING_3000):
            value = find_cures(form, "out")
            self.assertIs(cures_hold(form, "out", value), True)
            self.assertTrue(same(value, naive_last.find_cures(form, "out")))
        value = find_cures(TURNING_3000, "once")
        self.assertIs(cures_hold(TURNING_3000, "once", value), True)
        self.assertEqual([links for links, _ in value[0]], [(2,), (3,)][:len(value[0])])


class CuresHoldTest(unittest.TestCase):
    def check(self, form, way, value, expected):
        self.assertIs(naive_last.cures_hold(form, way, value), expected)
        self.assertIs(cures_hold(form, way, value), expected)

    def test_variants_of_evidence(self):
        cases = [(T, "once"), (ONE_LINK, "out"), (T, "out"), (LONE, "out")]
        for form, way in cases:
            value = find_cures(form, way)
            before = duplicate(value)
            step = 1 if form is not T else 7
            for variant in spoiled(value, SOME_VALUES)[::step] + ANY_VALUES + row_variants(value):
                self.assertIs(cures_hold(form, way, variant), naive_last.cures_hold(form, way, variant), variant)
            self.assertTrue(same(value, before))

    def test_evidence_of_other_questions(self):
        questions = [(form, way) for form in (T, ONE_LINK, WHIRL, U, TWINS, IDLING) for way in WAYS]
        values = [find_cures(*given) for given in questions]
        for given in questions:
            for value in values:
                self.assertIs(cures_hold(*given, value), naive_last.cures_hold(*given, value))

    def test_what_is_told_need_not_be_the_least_or_greatest(self):
        for way in WAYS:
            cures, others = find_cures(T, way)
            whole = ((0, 1), naive.find_endless(naive_last.treated(T, way, (0, 1)))[1])
            self.check(T, way, (cures, others), True)
            self.check(T, way, ((cures[0], whole, cures[1]), others), True)
            self.check(T, way, ((cures[0], cures[1], whole), others), False)
            self.check(T, way, (cures[:1] + (whole,), others), False)
            self.check(T, way, ((whole,), others), False)
            self.check(T, way, (cures, ()), False)
            self.check(T, way, (cures[1:], others), False)
            self.check(T, way, (cures[::-1], others), False)
            self.check(T, way, (cures[:1] + cures, others), False)
            self.check(T, way, (cures, others * 2), False)

    def test_all_sets_told(self):
        for way in WAYS:
            told = [(links, naive.find_endless(naive_last.treated(TWO_RINGS, way, links)))
                    for links in sorted(naive_last.all_sets(TWO_RINGS))]
            cures = tuple((links, found[1]) for links, found in told if found[0] == "heights")
            others = tuple((links, found) for links, found in told if found[0] == "endless")
            self.assertEqual([len(cures), len(others)], [9, 7])
            self.check(TWO_RINGS, way, (cures, others), True)
            self.check(TWO_RINGS, way, (cures[1:], others), True)
            self.check(TWO_RINGS, way, ([row for row in cures if row[0] != (0, 2)], others), False)
            self.check(TWO_RINGS, way, (tuple(row for row in cures if row[0] != (0, 2)), others), False)
            self.check(TWO_RINGS, way, (cures, others[1:]), True)
            self.check(TWO_RINGS, way, (cures, tuple(row for row in others if row[0] != (2, 3))), False)
            self.check(TWO_RINGS, way, (cures + cures[-1:], others), False)
            self.check(TWO_RINGS, way, (cures, others + cures[-1:]), False)

    def test_sets_in_the_wrong_place(self):
        cures, others = find_cures(T, "out")
        self.check(T, "out", (others, cures), False)
        self.check(T, "out", (cures + (((), others[0][1]),), others), False)
        self.check(T, "out", ((((), ()),) + cures, others), False)
        self.check(T, "out", (cures, others + (((0,), others[0][1]),)), False)
        self.check(T, "out", (cures, (((), ("heights", ())),)), False)
        self.check(P, "out", ((((), find_cures(P, "out")[0][0][1]),), ()), True)
        self.check(P, "out", ((), ()), False)

    def test_evidence_of_the_greatest_size(self):
        rows = tuple((moment, len(moment[2])) for moment in checks.quiet_moments(3000))
        more = tuple((moment, len(moment[2])) for moment in checks.quiet_moments(3001))
        sets = sorted(naive_last.all_sets(QUIET))
        # All links of QUIET are once links, so to make some of them once links changes nothing.
        self.assertIs(cures_hold(QUIET, "once", (tuple((links, rows) for links in sets), ())), True)
        self.assertIs(cures_hold(QUIET, "once", (tuple((links, more) for links in sets), ())), False)
        self.assertEqual(len(sets), 64)
        self.assertIs(cures_hold(QUIET, "once", (((sets[0], more),), ())), False)
        self.assertIs(cures_hold(QUIET, "once", (((sets[0], rows),), ())), True)


def row_variants(value):
    """Return variants of evidence with rows of both tuples left out, doubled or exchanged."""
    found = []
    for place in (0, 1):
        for rows in checks.row_variants(("", value[place])):
            found.append((rows[1], value[1]) if place == 0 else (value[0], rows[1]))
    return found


class WrongTest(unittest.TestCase):
    CALLS = (find_cures, fewest_cure, lambda form, way: cures_hold(form, way, None))

    def test_what_is_no_way(self):
        for value in NO_WAYS:
            for form in (T, LONE, JUST_3001):
                for call in self.CALLS:
                    error = raised(lambda: call(form, value))
                    self.assertIs(error.__class__, NoWay)
                    self.assertIs(error.given, value)

    def test_too_many_moments(self):
        for form in (JUST_3001, ALSO_3001):
            for way in WAYS:
                for call in self.CALLS:
                    self.assertIs(raised(lambda: call(form, way)).__class__, TooManyMoments)

    def test_the_limit_for_all_sets(self):
        both = 0
        for form in TURNING[:12] + [S, T, C, WHIRL]:
            for way in WAYS:
                forms = [naive_last.treated(form, way, links) for links in naive_last.all_sets(form)]
                many = [len(naive.reach(done, naive.asked(done))) for done in forms]
                both += max(many) > many[0]
                for limit in (max(many) - 1, max(many)):
                    with mock.patch("echofields.reaches.MAX_MOMENTS", limit):
                        for call in self.CALLS:
                            self.assertIs(raised(lambda: call(form, way)).__class__ is TooManyMoments, limit < max(many))
        # By once links there may be more moments than without, also by a part of them alone.
        self.assertGreater(both, 5)

    def test_too_many_moments_for_some_sets_alone(self):
        many = [len(naive.reach(form, naive.asked(form))) for form in (GROWING, treated(GROWING, "once", (0, 1, 2, 3, 4, 5)))]
        self.assertEqual(many, [2799, 1911])
        for call in self.CALLS:
            self.assertIs(raised(lambda: call(GROWING, "out")), None)
            self.assertIs(raised(lambda: call(GROWING, "once")).__class__, TooManyMoments)

    def test_nothing_is_changed(self):
        values = [list(find_cures(T, "out")), ([], ()), {"a": [0]}, (((0,), []),)]
        before = duplicate(values)
        for value in values:
            self.assertIs(cures_hold(T, "out", value), False)
            raised(lambda: treated(T, "out", value))
            raised(lambda: find_cures(T, value))
        self.assertTrue(same(values, before))


if __name__ == "__main__":
    unittest.main()
