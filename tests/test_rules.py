"""[B8]: rules of firing."""

import unittest
from unittest import mock

from echofields.errors import BadEdit, BadFilling, NoRule, TooManyMoments
from echofields.rules import RULES, rules_part, run_by, walk_rule
from tests import checks, naive, naive_more
from tests.checks import WHIRL
from tests.samples import (
    ALSO_3001, ANY_VALUES, CALM_3000, FORMS, JUST_3001, LONE, P, Q, RESTING_3000, S, T, TURNING_3000, duplicate, raised,
    same,
)

QQ = (Q, (0, 0, 0), (0, 1))
TT = (T, (0, 0), (1, 1))
# Links 0 and 1 go round; link 2 waits behind them in a queue, and is never fired as the last one of a stack.
WAITING = ((2, 2), ((0, 1, (1, 0), 0), (1, 0, (0, 1), 0), (0, 1, (None, None), 0)))
# Field 0 sets field 1 by links 0 and 2; whatever fires ahead wakes the links of field 1 in between.
BETWEEN = (
    (2, 2, 2, 2),
    ((0, 1, (0, 1), 0), (1, 2, (0, 1), 0), (0, 3, (0, 1), 0), (1, 3, (1, 0), 0), (2, 3, (1, 0), 0), (3, 1, (0, 0), 1)),
)
NO_RULES = ANY_VALUES + ["Queue", "queue ", "que", "stack,", "leas", ("queue",), ["least"], {"queue": 0}, "greatest", b""]


class RunByTest(unittest.TestCase):
    def test_the_rules(self):
        self.assertTrue(same(RULES, ("queue", "stack", "least")))

    def test_against_the_words(self):
        words = set()
        for form in FORMS + checks.MIXED + [BETWEEN, WAITING, WHIRL]:
            for filling, edit in naive.asked(form)[::5]:
                for rule in RULES:
                    value = run_by(form, filling, edit, rule)
                    self.assertTrue(same(value, naive_more.run_by(form, filling, edit, rule)), (form, filling, edit, rule))
                    words.add((value[0], rule))
        self.assertEqual(len(words), 6)

    def test_as_written(self):
        self.assertEqual(run_by(*QQ, "queue"), ("end", (1, 1, 0), (0, 1, 2)))
        self.assertEqual(run_by(*QQ, "stack"), ("end", (1, 1, 1), (0, 2, 1)))
        self.assertEqual(run_by(*QQ, "least"), ("end", (1, 1, 0), (0, 1, 2)))
        self.assertEqual(run_by(*TT, "queue"), ("endless", (), (1, 0, 1, 0)))

    def test_the_rules_differ_in_the_middle_of_a_line(self):
        found = [run_by(BETWEEN, (0, 0, 0, 0), (0, 1), rule) for rule in RULES]
        self.assertEqual(len(set(found)), 3)
        for value, rule in zip(found, RULES):
            self.assertTrue(same(value, naive_more.run_by(BETWEEN, (0, 0, 0, 0), (0, 1), rule)))

    def test_edits_that_change_nothing(self):
        for form in FORMS:
            filling = naive.all_fillings(form)[-1]
            for rule in RULES:
                self.assertTrue(same(run_by(form, filling, (0, filling[0]), rule), ("end", filling, ())))

    def test_the_same_moment_with_another_line(self):
        # Moments come again here with another line before they do with the same one.
        several = 0
        for form in checks.MIXED + [BETWEEN, WAITING, WHIRL]:
            for filling, edit in naive.asked(form)[::3]:
                for rule in RULES[:2]:
                    pairs = list(walk_rule(form, filling, edit, rule))
                    moments = [moment for moment, _ in pairs[:-1]]
                    several += len(set(moments)) < len(moments)
        self.assertGreaterEqual(several, 20)

    def test_an_order_ahead_of_the_ring(self):
        value = run_by(WAITING, (0, 0), (0, 1), "queue")
        self.assertTrue(same(value, naive_more.run_by(WAITING, (0, 0), (0, 1), "queue")))
        lengths = {len(run_by(form, *beginning, rule)[1]) for form in checks.MIXED + [WAITING]
                   for beginning in naive.asked(form)[::4] for rule in RULES
                   if run_by(form, *beginning, rule)[0] == "endless"}
        self.assertGreaterEqual(lengths, {0, 1, 2, 3})

    def test_great_forms(self):
        for form in (RESTING_3000, TURNING_3000, CALM_3000):
            for filling, edit in naive.asked(form)[::17]:
                for rule in RULES:
                    self.assertTrue(same(run_by(form, filling, edit, rule), naive_more.run_by(form, filling, edit, rule)))


class WalkRuleTest(unittest.TestCase):
    def test_against_the_words(self):
        for form in FORMS + checks.MIXED + [BETWEEN, WAITING]:
            for filling, edit in naive.asked(form)[::7]:
                for rule in RULES:
                    pairs = list(walk_rule(form, filling, edit, rule))
                    self.assertTrue(same(pairs, naive_more.rule_pairs(form, filling, edit, rule)))

    def test_as_written(self):
        self.assertEqual(list(walk_rule(*QQ, "stack"))[1], ((0, (1, 1, 0), (1, 2), ()), (2, 1)))
        fillings = [moment[1] for moment, line in walk_rule(*TT, "queue")]
        self.assertEqual(fillings, [(0, 1), (1, 1), (1, 0), (0, 0), (0, 1)])

    def test_the_last_pair(self):
        self.assertEqual(list(walk_rule(T, (0, 1), (0, 0), "stack")), [((0, (0, 1), (), ()), ())])
        pairs = list(walk_rule(*TT, "least"))
        self.assertEqual(pairs.count(pairs[-1]), 2)
        self.assertEqual(pairs[0], pairs[-1])
        pairs = list(walk_rule(*QQ, "least"))
        self.assertEqual(len(pairs), len(set(pairs)))
        self.assertEqual(pairs[-1][1], ())

    def test_it_is_a_generator(self):
        walk = walk_rule(*TT, "queue")
        self.assertIs(iter(walk), walk)
        self.assertEqual(next(walk), ((1, (0, 1), (1,), ()), (1,)))


class RulesPartTest(unittest.TestCase):
    def test_against_the_words(self):
        found = set()
        for form in FORMS + checks.MIXED[::2] + [BETWEEN, WAITING, WHIRL]:
            for one in RULES:
                for other in RULES:
                    for calm in (False, True):
                        value = rules_part(form, one, other, calm=calm)
                        self.assertTrue(same(value, naive_more.rules_part(form, one, other, calm)), (form, one, other))
                        found.add((one, other, value is None))
                    self.assertTrue(same(rules_part(form, one, other), naive_more.rules_part(form, one, other)))
        self.assertEqual(len(found), 15)

    def test_as_written(self):
        self.assertEqual(rules_part(Q, "queue", "stack"), ((0, 0, 0), (0, 1)))
        self.assertIs(rules_part(Q, "queue", "least"), None)
        self.assertIs(rules_part(T, "stack", "queue"), None)
        self.assertIs(rules_part(LONE, "stack", "queue"), None)

    def test_a_run_that_is_over_parts_from_an_endless_one(self):
        kinds = set()
        for form in checks.MIXED + [WHIRL]:
            value = rules_part(form, "queue", "stack")
            if value is not None:
                kinds.add(tuple(run_by(form, *value, rule)[0] for rule in ("queue", "stack")))
        self.assertEqual(kinds, {("end", "end"), ("end", "endless"), ("endless", "end")})

    def test_great_forms(self):
        for form in (RESTING_3000, TURNING_3000):
            self.assertEqual(rules_part(form, "queue", "least"), naive_more.rules_part(form, "queue", "least"))
        self.assertEqual(rules_part(CALM_3000, "queue", "stack", calm=True),
                         naive_more.rules_part(CALM_3000, "queue", "stack", True))


class WrongTest(unittest.TestCase):
    CALLS = (run_by, lambda *given: list(walk_rule(*given)), lambda *given: next(walk_rule(*given)))

    def test_what_is_no_filling_or_no_edit(self):
        for call in self.CALLS:
            checks.check_beginning(self, lambda *given: call(*given, "queue"))

    def check_rule(self, call, value):
        error = raised(call)
        self.assertIs(error.__class__, NoRule)
        self.assertIs(error.given, value)

    def test_what_is_no_rule(self):
        before = duplicate(NO_RULES)
        for value in NO_RULES:
            for call in self.CALLS:
                self.check_rule(lambda: call(*QQ, value), value)
                self.assertIs(raised(lambda: call(Q, [0, 0, 0], None, value)).__class__, BadFilling)
                self.assertIs(raised(lambda: call(Q, (0, 0, 0), None, value)).__class__, BadEdit)
            for other in RULES + (None, "q"):
                self.check_rule(lambda: rules_part(Q, value, other), value)
            for one in RULES:
                self.check_rule(lambda: rules_part(Q, one, value), value)
        self.assertTrue(same(NO_RULES, before))

    def test_no_rule_is_told_ahead_of_too_many_moments(self):
        for value in (None, "rule", ["queue"]):
            for form in (JUST_3001, ALSO_3001):
                self.check_rule(lambda: rules_part(form, value, value), value)
                self.check_rule(lambda: rules_part(form, "least", value), value)
                self.assertIs(raised(lambda: rules_part(form, "least", "least")).__class__, TooManyMoments)
                self.assertIs(raised(lambda: rules_part(form, "least", "stack", calm=True)), None)
            with mock.patch("echofields.reaches.MAX_MOMENTS", 0):
                for call in self.CALLS:
                    self.check_rule(lambda: call(*QQ, value), value)

    def test_the_limit(self):
        for form in (S, P, T, Q, WHIRL):
            for given in naive.asked(form)[::3]:
                for call in self.CALLS:
                    checks.check_limit_at(self, lambda: call(form, *given, "queue"), form, given)
        checks.check_limit(self, lambda form, calm: rules_part(form, "queue", "stack", calm=calm))

    def test_one_beginning_of_a_great_form(self):
        for form in (JUST_3001, ALSO_3001):
            for filling, edit in naive.asked(form)[::31]:
                self.assertEqual(run_by(form, filling, edit, "stack"), naive_more.run_by(form, filling, edit, "stack"))


if __name__ == "__main__":
    unittest.main()
