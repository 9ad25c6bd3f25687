"""[C1] to [C3]: what the fields of calm fillings tell of one another."""

import unittest

from echofields.errors import BadFields, NoField
from echofields.telling import (
    calm_fillings, find_telling, least_differences, least_keys, tellers, telling_holds,
)
from tests import checks, naive, naive_more
from tests.samples import (
    ALSO_3001, ANY_VALUES, C, FORMS, GREAT, JUST_3001, LONE, NO_LINKS, P, S, SOME_VALUES, T, TWINS, VERY_GREAT,
    duplicate, is_among, raised, same, spoiled,
)

FORMS_HERE = FORMS + checks.MIXED + [JUST_3001, ALSO_3001]
# The two fields copy each other, so each tells the other one; a third one stands by.
COPIES = ((3, 3, 2), ((0, 1, (0, 1, 2), 0), (1, 0, (0, 1, 2), 0)))
# Just one filling is calm.
SINGLE = ((2, 2), ((0, 1, (1, 1), 0), (1, 0, (0, 0), 0)))
# Fields 0 and 1 together tell field 2, neither of them does alone.
PAIRED = ((2, 2, 3), ((2, 0, (0, 0, 1), 0), (2, 1, (0, 1, 0), 0)))
PARTED = ("parted", (0, 2), (1, 2))


def sets_of(form):
    return naive_more.parts_of(range(len(form[0])))


class CalmTest(unittest.TestCase):
    def test_against_the_words(self):
        for form in FORMS_HERE:
            self.assertTrue(same(calm_fillings(form), naive_more.calm_fillings(form)))

    def test_as_written(self):
        self.assertEqual(calm_fillings(S), ((0, 0), (0, 1), (0, 2), (1, 2)))
        self.assertEqual(calm_fillings(C), ((0, 0, 0), (2, 2, 1)))
        self.assertEqual(calm_fillings(T), ())
        self.assertEqual(calm_fillings(LONE), tuple((value,) for value in range(6)))


class FindTellingTest(unittest.TestCase):
    def test_against_the_words(self):
        words = set()
        for form in FORMS_HERE + [COPIES, SINGLE, PAIRED]:
            for fields in sets_of(form):
                for field in range(len(form[0])):
                    value = find_telling(form, fields, field)
                    self.assertTrue(same(value, naive_more.find_telling(form, fields, field)))
                    self.assertIs(telling_holds(form, fields, field, value), True)
                    words.add((value[0], len(fields)))
        self.assertGreaterEqual(words, {("told", 0), ("told", 1), ("told", 2), ("parted", 0), ("parted", 1), ("parted", 2)})

    def test_as_written(self):
        self.assertEqual(find_telling(S, (1,), 0), PARTED)
        self.assertEqual(find_telling(S, (0, 1), 1)[1][3], ((1, 2), 2))
        self.assertEqual(find_telling(C, (2,), 0), ("told", (((0,), 0), ((1,), 2))))

    def test_fields_tell_themselves(self):
        for form in FORMS_HERE:
            for fields in sets_of(form):
                for field in fields:
                    self.assertEqual(find_telling(form, fields, field)[0], "told")

    def test_the_empty_tuple(self):
        self.assertEqual(find_telling(T, (), 1), ("told", ()))
        self.assertEqual(find_telling(SINGLE, (), 0), ("told", (((), 0),)))
        self.assertEqual(find_telling(SINGLE, (), 1), ("told", (((), 1),)))
        self.assertEqual(find_telling(LONE, (), 0), ("parted", (0,), (1,)))
        self.assertEqual(find_telling(S, (), 1), ("parted", (0, 0), (0, 1)))

    def test_no_filling_is_calm(self):
        for fields in sets_of(T):
            for field in (0, 1):
                self.assertEqual(find_telling(T, fields, field), ("told", ()))


class TellingHoldsTest(unittest.TestCase):
    def check(self, given, value, expected):
        self.assertIs(naive_more.telling_holds(*given, value), expected)
        self.assertIs(telling_holds(*given, value), expected)

    def test_variants_of_evidence(self):
        cases = [(S, (1,), 0), (S, (0, 1), 1), (S, (0,), 1), (C, (2,), 0), (T, (), 0), (T, (0, 1), 0), (PAIRED, (0, 1), 2),
                 (SINGLE, (), 1), (COPIES, (0,), 1), (TWINS, (0,), 1), (LONE, (), 0), (P, (0,), 1), (COPIES, (0, 2), 1)]
        for given in cases:
            value = find_telling(*given)
            before = duplicate(value)
            variants = spoiled(value, SOME_VALUES) + ANY_VALUES
            if value[0] == "told":
                variants += checks.row_variants(value)
            for other in variants:
                self.assertIs(telling_holds(*given, other), naive_more.telling_holds(*given, other), other)
            self.assertTrue(same(value, before))

    def test_evidence_of_other_questions(self):
        questions = [(form, fields, field) for form in (S, C, T, TWINS, COPIES, PAIRED) for fields in sets_of(form)
                     for field in range(len(form[0]))]
        values = [find_telling(*given) for given in questions]
        for given in questions:
            for value in values:
                self.assertIs(telling_holds(*given, value), naive_more.telling_holds(*given, value))

    def test_parted_in_any_order(self):
        self.check((S, (1,), 0), ("parted", (1, 2), (0, 2)), True)
        self.check((S, (), 1), ("parted", (0, 2), (0, 1)), True)
        self.check((S, (), 1), ("parted", (0, 2), (1, 2)), False)
        self.check((S, (0,), 1), ("parted", (1, 1), (1, 2)), False)
        self.check((S, (0,), 1), ("parted", (0, 1), (0, 2)), True)

    def test_more_pairs_than_are_needed(self):
        self.check((C, (2,), 0), ("told", (((0,), 0), ((1,), 2))), True)
        self.check((T, (0,), 1), ("told", (((0,), 1), ((1,), 0))), True)
        self.check((T, (0,), 1), ("told", (((0,), 1), ((0,), 0))), False)
        self.check((T, (0,), 1), ("told", (((0,), 0), ((0,), 1))), False)
        self.check((T, (0,), 1), ("told", (((1,), 0), ((0,), 0))), False)
        self.check((T, (0,), 1), ("told", (((2,), 0),)), False)
        self.check((T, (0,), 1), ("told", (((0,), 2),)), False)
        self.check((T, (0,), 1), ("told", (((0, 1), 0),)), False)
        self.check((T, (), 1), ("told", (((), 0),)), True)
        self.check((T, (), 1), ("told", (((), 0), ((), 1))), False)
        self.check((SINGLE, (), 0), ("told", ()), False)
        more = (((0, 0), 0), ((0, 1), 0), ((0, 2), 0), ((1, 0), 1), ((1, 1), 1), ((1, 2), 1))
        self.check((S, (0, 1), 0), ("told", more), True)
        self.check((S, (0, 1), 0), ("told", more[:3] + more[4:]), True)
        self.check((S, (0, 1), 0), ("told", more[1:]), False)

    def test_truths_are_no_values(self):
        self.check((C, (2,), 0), ("told", (((False,), 0), ((1,), 2))), False)
        self.check((C, (2,), 0), ("told", (((0,), False), ((1,), 2))), False)
        self.check((S, (1,), 0), ("parted", (False, 2), (1, 2)), False)
        self.check((S, (1,), 0), ("parted", (0, 2), (True, 2)), False)
        self.check((S, (1,), 0), ("parted", [0, 2], (1, 2)), False)


class SetsTest(unittest.TestCase):
    def test_against_the_words(self):
        for form in FORMS_HERE + [COPIES, SINGLE, PAIRED]:
            for field in range(len(form[0])):
                self.assertTrue(same(tellers(form, field), naive_more.tellers(form, field)), form)
            self.assertTrue(same(least_keys(form), naive_more.least_keys(form)), form)
            self.assertTrue(same(least_differences(form), naive_more.least_differences(form)), form)

    def test_as_written(self):
        self.assertEqual([tellers(C, 0), tellers(S, 0)], [((1,), (2,)), ()])
        self.assertEqual([least_keys(C), least_differences(C)], [((0,), (1,), (2,)), ((0, 1, 2),)])
        self.assertEqual([least_keys(S), least_differences(S)], [((0, 1),), ((0,), (1,))])

    def test_keys_meet_the_differences(self):
        for form in FORMS_HERE:
            for fields in sets_of(form):
                tells_all = all(find_telling(form, fields, field)[0] == "told" for field in range(len(form[0])))
                meets = all(set(fields) & set(row) for row in least_differences(form))
                self.assertIs(tells_all, meets)

    def test_none_or_one_filling_is_calm(self):
        for form in (T, SINGLE):
            self.assertEqual(least_keys(form), ((),))
            self.assertEqual(least_differences(form), ())
            self.assertEqual([tellers(form, 0), tellers(form, 1)], [((),), ((),)])

    def test_others_that_do_not_tell(self):
        self.assertEqual(tellers(LONE, 0), ())
        self.assertEqual(tellers(NO_LINKS, 1), ())
        self.assertEqual(least_keys(LONE), ((0,),))
        self.assertEqual(least_keys(NO_LINKS), ((0, 1, 2),))
        self.assertEqual(tellers(COPIES, 0), ((1,),))
        self.assertEqual(tellers(COPIES, 2), ())

    def test_several_fields_together(self):
        self.assertEqual(calm_fillings(PAIRED), ((0, 0, 0), (0, 1, 1), (1, 0, 2)))
        self.assertEqual([tellers(PAIRED, field) for field in range(3)], [((2,),), ((2,),), ((0, 1),)])
        self.assertEqual(least_keys(PAIRED), ((0, 1), (2,)))
        self.assertEqual(least_differences(PAIRED), ((0, 2), (1, 2)))
        lengths = {len(fields) for form in FORMS_HERE + [PAIRED] for field in range(len(form[0])) for fields in tellers(form, field)}
        self.assertGreaterEqual(lengths, {0, 1, 2})


class WrongTest(unittest.TestCase):
    CALLS = (find_telling, lambda *given: telling_holds(*given, None), lambda *given: telling_holds(*given, PARTED))

    def test_what_are_no_fields(self):
        for form in (S, C, LONE):
            sets = sets_of(form)
            values = ANY_VALUES + spoiled(sets[-1]) + [sets[-1][::-1], (0, 0), (-1,), (0, 1, 2, 3), [0, 1], (GREAT,)]
            for value in values:
                if is_among(value, sets):
                    continue
                for call in self.CALLS:
                    for field in (0, None, GREAT):
                        error = raised(lambda: call(form, value, field))
                        self.assertIs(error.__class__, BadFields)
                        self.assertIs(error.given, value)

    def test_what_is_no_field(self):
        for form in (S, C, LONE):
            for value in ANY_VALUES + [-1, len(form[0]), VERY_GREAT]:
                if is_among(value, range(len(form[0]))):
                    continue
                calls = [lambda: tellers(form, value)]
                calls += [lambda call=call, fields=fields: call(form, fields, value)
                          for call in self.CALLS for fields in sets_of(form)]
                for call in calls:
                    error = raised(call)
                    self.assertIs(error.__class__, NoField)
                    self.assertIs(error.given, value)

    def test_nothing_is_changed(self):
        values = [[0, 1], ([0], 1), {"a": [0]}, (0, [1]), ("told", [((0,), 0)]), ["parted", (0, 0), (0, 1)]]
        before = duplicate(values)
        for value in values:
            raised(lambda: find_telling(S, value, value))
            raised(lambda: tellers(S, value))
            telling_holds(S, (0,), 1, value)
        self.assertTrue(same(values, before))


if __name__ == "__main__":
    unittest.main()
