"""[N5]: safe benches."""

import random
import unittest
from unittest import mock

from echofields.benches import Bench, SafeBench
from echofields.endless import find_endless
from echofields.errors import (
    BadForm, BadLink, Busy, GoesOn, NoGuard, NoItem, NoLink, NoTruth, NoValue, Rejected, TooMany, TooManyChanges,
    TooManyMoments,
)
from echofields.forms import form_error
from tests import checks, naive
from tests.bench_model import Model, do, do_by_sign, outcome, random_change, state
from tests.samples import (
    ALSO_3001, ANY_VALUES, C, CALM_3000, FORMS, JUST_3001, LONE, P, RESTING_3000, S, T, TURNING_3000, TWINS, U, V,
    duplicate, raised, same, spoiled,
)

ONCE = ((2, 2), (T[1][0], T[1][1][:3] + (1,)))
CALM_ENDLESS = ((2, 2), ((0, 1, (0, 1), 0), (1, 0, (0, 1), 0), (0, 1, (None, 0), 0)))


class CreatedTest(unittest.TestCase):
    def test_against_the_words(self):
        words = set()
        for form in FORMS[:-1] + checks.MIXED[::3] + [CALM_ENDLESS]:
            for calm in (False, True):
                found = naive.find_endless(form, calm)
                error = raised(lambda: SafeBench(form, calm=calm))
                if found[0] == "endless":
                    self.assertIs(error.__class__, GoesOn)
                    self.assertTrue(same((error.begun, error.edit), found[1:3]))
                else:
                    safe = SafeBench(form, calm=calm)
                    self.assertTrue(same((safe.form_at(), safe.calm, safe.evidence), (form, calm, found[1])))
                    self.assertIs(bool(safe), True)
                words.add((found[0], calm))
            if naive.find_endless(form)[0] == "heights":
                self.assertIs(SafeBench(form).calm, False)
        self.assertEqual(len(words), 4)

    def test_as_written(self):
        safe = SafeBench(T, calm=True)
        self.assertEqual([safe.calm, safe.evidence, safe.drop(0), len(safe.evidence), bool(safe)], [True, (), 1, 8, True])
        error = raised(lambda: safe.set_calm(False))
        self.assertEqual((error.__class__, error.begun, error.edit), (GoesOn, (0, 0), (1, 1)))

    def test_it_is_a_subclass(self):
        self.assertIs(issubclass(SafeBench, Bench), True)
        self.assertIsInstance(SafeBench(S), Bench)

    def test_the_order_of_the_errors(self):
        for value in ANY_VALUES + spoiled(S):
            if form_error(value) is not None:
                for calm in (None, 0, True):
                    error = raised(lambda: SafeBench(value, calm=calm))
                    self.assertIs(error.__class__, BadForm)
                    self.assertTrue(same(error.error, form_error(value)))
        for value in ANY_VALUES:
            if value is not True and value is not False:
                for form in (S, T, JUST_3001):
                    error = raised(lambda: SafeBench(form, calm=value))
                    self.assertIs(error.__class__, NoTruth)
                    self.assertIs(error.given, value)
        for form in (JUST_3001, ALSO_3001):
            self.assertIs(raised(lambda: SafeBench(form)).__class__, TooManyMoments)
        self.assertIs(raised(lambda: SafeBench(T)).__class__, GoesOn)
        with mock.patch("echofields.reaches.MAX_MOMENTS", 3):
            self.assertIs(raised(lambda: SafeBench(T)).__class__, TooManyMoments)
            self.assertIs(raised(lambda: SafeBench(T, calm=True)), None)


class ChangedTest(unittest.TestCase):
    def test_against_the_words(self):
        kinds = set()
        for seed in range(60):
            rnd = random.Random(seed)
            form, calm = rnd.choice([(S, False), (U, False), (T, True), (((2, 2), ()), False), (((2, 2), ()), True),
                                     (P, False), (TWINS, True)])
            bench, model = SafeBench(form, calm=calm), Model(form, calm, safe=True)
            for _ in range(25):
                if rnd.random() < 0.15:
                    found, expected, word = outcome(bench.undo), model.undo(), "undo"
                else:
                    change = random_change(rnd, model.forms[-1])
                    way = rnd.choice([do, do_by_sign])
                    found, expected, word = outcome(lambda: way(bench, change)), model.apply(change), change[0]
                self.assertTrue(same(found, expected), (found, expected))
                kinds.add(word if found.__class__ is int else found[0])
                self.assertTrue(same(tuple(bench.each_version()), tuple(model.forms)))
                self.assertTrue(same(bench.changes(), tuple(model.changes)))
            self.assertTrue(same(bench.evidence, naive.find_endless(model.forms[-1], calm)[1]))
        self.assertGreaterEqual(kinds, {"add", "drop", "set", "guard", "entry", "undo", "GoesOn", "BadLink", "NoLink"})

    def test_each_change_may_go_on(self):
        still = (1, 0, (None, None), 0)
        form = ((2, 2), (T[1][0], still))
        cases = [
            (((2, 2), T[1][:1]), ("add", T[1][1])), (form, ("set", 1, T[1][1])),
            (((2, 2), (T[1][0], (1, 0, (0, None), 0))), ("entry", 1, 1, 1)), (ONCE, ("guard", 1, 0)),
        ]
        for start, change in cases:
            for way in (do, do_by_sign):
                safe = SafeBench(start)
                before = state(safe)
                error = raised(lambda: way(safe, change))
                self.assertEqual((error.__class__, error.begun, error.edit), (GoesOn, (0, 0), (1, 1)))
                self.assertTrue(same(state(safe), before))
                safe = SafeBench(start, calm=True)
                self.assertEqual(way(safe, change), 1)

    def test_a_drop_may_go_on(self):
        # Link 2 is what ends each run; without it runs go on.
        found = 0
        for form in checks.MIXED:
            for index in range(len(form[1])):
                if naive.find_endless(form)[0] == "heights":
                    safe = SafeBench(form)
                    self.assertEqual(safe.drop(index), 1)
                    found += 1
        self.assertGreater(found, 50)

    def test_too_many_moments(self):
        safe = SafeBench(RESTING_3000)
        before = state(safe)
        for change in (("guard", 1, 0), ("entry", 5, 2, 0), ("set", 1, RESTING_3000[1][1][:3] + (0,))):
            for way in (do, do_by_sign):
                self.assertIs(raised(lambda: way(safe, change)).__class__, TooManyMoments)
                self.assertTrue(same(state(safe), before))
            error = raised(lambda: safe.attempt((("guard", 0, 2), change)))
            self.assertEqual((error.__class__, error.index), (Rejected, 1))
            self.assertTrue(same(state(safe), before))

    def test_other_errors_come_first(self):
        safe = SafeBench(ONCE)
        for call, kind in (
                (lambda: safe.drop(2), NoLink), (lambda: safe.guard(1, 4), NoGuard), (lambda: safe.entry(1, 2, 0), NoValue),
                (lambda: safe.entry(1, 0, 2), NoItem), (lambda: safe.replace(1, None), BadLink)):
            self.assertIs(raised(call).__class__, kind)
        full = SafeBench(((2, 2), T[1][:1] * 6))
        self.assertIs(raised(lambda: full.add(T[1][1])).__class__, TooMany)
        for _ in range(40):
            safe.guard(0, 0)
        self.assertIs(raised(lambda: safe.guard(1, 0)).__class__, TooManyChanges)
        self.assertEqual(len(safe.changes()), 40)

    def test_batches(self):
        safe = SafeBench(ONCE)
        before = state(safe)
        error = raised(lambda: safe.attempt((("guard", 0, 1), ("guard", 1, 0), ("guard", 0, 0))))
        self.assertEqual((error.__class__, error.index), (Rejected, 2))
        self.assertTrue(same(state(safe), before))
        self.assertEqual(safe.attempt((("guard", 0, 1), ("guard", 1, 0))), 2)
        seen = []
        error = raised(lambda: safe.attempt((("guard", 0, 3), ("guard", 0, 0)), on_step=lambda given: seen.append(given.evidence)))
        self.assertEqual((error.index, len(seen)), (1, 1))
        self.assertEqual(len(safe.changes()), 2)
        self.assertIs(raised(lambda: safe.attempt((("guard", 0, 3),), on_step=lambda given: given.drop(0))).__class__, Busy)

    def test_undo(self):
        safe = SafeBench(ONCE)
        evidence = safe.evidence
        self.assertEqual([safe.guard(0, 1), safe.drop(1)], [1, 2])
        self.assertEqual([safe.undo(), safe.undo()], [1, 0])
        self.assertTrue(same(safe.evidence, evidence))

    def test_the_latest_form_of_many_moments(self):
        safe = SafeBench(RESTING_3000)
        self.assertEqual(len(safe.evidence), 3000)
        self.assertEqual([safe.guard(0, 3), safe.drop(5), safe.undo()], [1, 2, 1])
        self.assertEqual(safe.evidence, find_endless(safe.form_at())[1])


class CalmTest(unittest.TestCase):
    def test_the_first_version_decides(self):
        safe = SafeBench(T, calm=True)
        self.assertEqual([safe.drop(1), safe.add((1, 0, (0, 1), 2))], [1, 2])
        for call in (lambda: safe.set_calm(False), lambda: setattr(safe, "calm", False)):
            error = raised(call)
            self.assertEqual((error.__class__, error.begun, error.edit), (GoesOn, (0, 0), (1, 1)))
            self.assertIs(safe.calm, True)
        with mock.patch("echofields.reaches.MAX_MOMENTS", 5):
            self.assertIs(raised(lambda: safe.set_calm(False)).__class__, TooManyMoments)
        self.assertIs(safe.calm, True)

    def test_a_later_version_alone(self):
        safe = SafeBench(((2, 2), T[1][:1]), calm=True)
        self.assertEqual([safe.add(T[1][1]), safe.drop(0)], [1, 2])
        error = raised(lambda: safe.set_calm(False))
        self.assertEqual((error.begun, error.edit), find_endless(T)[1:3])
        self.assertEqual([safe.undo(), safe.undo()], [1, 0])
        safe.set_calm(False)
        self.assertIs(safe.calm, False)
        self.assertIs(raised(lambda: safe.add(T[1][1])).__class__, GoesOn)

    def test_the_first_of_two_errors(self):
        # One version has too many moments, and another one goes on.
        turning = tuple((source + 1, target + 1, table, guard) for source, target, table, guard in T[1])
        for rows, kind in (((JUST_3001[1], turning), TooManyMoments), ((turning, JUST_3001[1]), GoesOn)):
            safe = SafeBench((JUST_3001[0], ()), calm=True)
            for links in rows:
                for link in links:
                    safe.add(link)
                for _ in links:
                    safe.drop(0)
            self.assertIs(raised(lambda: safe.set_calm(False)).__class__, kind)
            self.assertIs(safe.calm, True)

    def test_to_each_truth(self):
        safe = SafeBench(S)
        for value in (True, True, False, False, True):
            safe.set_calm(value)
            self.assertIs(safe.calm, value)
            self.assertTrue(same(safe.evidence, find_endless(S, calm=value)[1]))
        safe.guard(0, 0)
        safe.undo()
        self.assertIs(safe.calm, True)

    def test_no_truth_is_told_first(self):
        safe = SafeBench(T, calm=True)
        for value in ANY_VALUES:
            if value is not True and value is not False:
                error = raised(lambda: safe.set_calm(value))
                self.assertIs(error.__class__, NoTruth)
                self.assertIs(error.given, value)
        self.assertIs(safe.calm, True)


class AskedTest(unittest.TestCase):
    def test_copies(self):
        safe = SafeBench(T, calm=True)
        safe.drop(0)
        twin = safe.copy()
        self.assertIs(twin.__class__, SafeBench)
        self.assertTrue(same(state(twin), state(safe)))
        self.assertTrue(same(twin.evidence, safe.evidence))
        self.assertEqual([twin.add(T[1][0]), twin.undo(), twin.undo()], [2, 1, 0])
        self.assertEqual(len(safe.changes()), 1)
        self.assertIs(raised(lambda: twin.set_calm(False)).__class__, GoesOn)
        self.assertIs(safe == SafeBench(safe.form_at(), calm=True), True)

    def test_equal_benches(self):
        self.assertIs(SafeBench(S) == SafeBench(S, calm=True), False)
        self.assertIs(SafeBench(S) == SafeBench(S), True)
        self.assertIs(SafeBench(S) != SafeBench(U), True)

    def test_all_versions_are_safe(self):
        safe = SafeBench(ONCE)
        safe.attempt((("guard", 0, 1), ("entry", 1, 0, None), ("drop", 1)))
        for version in range(4):
            self.assertEqual(safe.verdict_at(version=version), find_endless(safe.form_at(version=version)))
            self.assertEqual(safe.verdict_at(version=version)[0], "heights")

    def test_evidence_can_only_be_read(self):
        safe = SafeBench(LONE)
        with self.assertRaises(AttributeError):
            safe.evidence = ()
        self.assertEqual(safe.evidence, find_endless(LONE)[1])

    def test_forms_with_many_moments(self):
        self.assertIs(raised(lambda: SafeBench(TURNING_3000)).__class__, GoesOn)
        self.assertIs(raised(lambda: SafeBench(CALM_3000)).__class__, TooManyMoments)
        self.assertIs(raised(lambda: SafeBench(V)), None)
        self.assertIs(raised(lambda: SafeBench(C)), None)

    def test_nothing_passed_is_changed(self):
        values = [[0], {"a": [1]}, (("add", [0, 1]),)]
        before = duplicate(values)
        for value in values:
            raised(lambda: SafeBench(value))
            raised(lambda: SafeBench(S, calm=value))
            raised(lambda: SafeBench(S).attempt(value))
        self.assertTrue(same(values, before))


if __name__ == "__main__":
    unittest.main()
