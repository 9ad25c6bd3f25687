"""[G1] to [G3]: rings and chains of very many fields."""

import itertools
import random
import unittest

from echofields.errors import NoField, NoNumber
from echofields.fields import Fields
from echofields.forms import is_form
from echofields.rings import count_endless, endless_rule, firings, shares_after, value_after
from tests import naive_last
from tests.samples import ANY_VALUES, GREAT, VERY_GREAT, duplicate, raised, same

FAR = 10 ** 18
TURN = ((1, 2, 0, 3), (3,), 0)
SMALL = [table for size in (2, 3) for table in itertools.product([None, *range(size)], repeat=size)]


def given_rings(seed, many):
    """Return tables, old values and starts: all small ones with one or two old values, and some of any size."""
    found = [(table, old, start) for table in SMALL for start in range(len(table)) for length in (1, 2)
             for old in itertools.product(range(len(table)), repeat=length)]
    rnd = random.Random(seed)
    for _ in range(many):
        size = rnd.randint(2, 8)
        values = [None] * rnd.choice([0, 0, 1]) + list(range(size)) * 2
        table = tuple(rnd.choice(values) for _ in range(size))
        found.append((table, tuple(rnd.randrange(size) for _ in range(rnd.randint(1, 6))), rnd.randrange(size)))
    return found


def wish_at(table, start, number):
    """Return w(number), going through no more wishes than there are values."""
    wishes = [start]
    while wishes[-1] is not None and table[wishes[-1]] not in wishes:
        wishes.append(table[wishes[-1]])
    if number < len(wishes):
        return wishes[number]
    if wishes[-1] is None or table[wishes[-1]] is None:
        return None
    ahead = wishes.index(table[wishes[-1]])
    return wishes[ahead + (number - ahead) % (len(wishes) - ahead)]


class SmallRingsTest(unittest.TestCase):
    def test_against_the_words(self):
        kinds = set()
        for table, old, start in given_rings(1, 400):
            for many in (2, 3, 4, 5, 7, 12):
                for closed in (True, False):
                    kinds.add(self.check(table, old, start, many, closed))
        # A ring that is not endless may be over before it comes round, or behind that; a chain never comes round.
        self.assertEqual(kinds, {(True, True, True), (True, False, True), (True, False, False), (False, False, False)})

    def check(self, table, old, start, many, closed):
        given = (table, old, start, many)
        states, endless = naive_last.ring_states(*given, closed)
        expected = None if endless else len(states) - 1
        self.assertTrue(same(firings(*given, closed=closed), expected), (given, closed))
        for times in range(0, len(states) + (0 if endless else 2), 3):
            values = states[min(times, len(states) - 1)]
            self.assertTrue(same(tuple(value_after(*given, field, times, closed=closed) for field in range(many)), values))
            shares = tuple(values.count(value) for value in range(len(table)))
            self.assertTrue(same(shares_after(*given, times, closed=closed), shares))
        return closed, endless, len(states) > many

    def test_closed_is_told_by_itself(self):
        for table, old, start in given_rings(2, 50)[::9]:
            given = (table, old, start, 4)
            self.assertEqual(firings(*given), firings(*given, closed=True))
            self.assertEqual(value_after(*given, 3, 9), value_after(*given, 3, 9, closed=True))
            self.assertEqual(shares_after(*given, 9), shares_after(*given, 9, closed=True))

    def test_they_are_forms_where_they_are_small(self):
        compared = 0
        for table, old, start in given_rings(3, 100)[::3]:
            for many, closed in ((2, True), (3, True), (4, True), (2, False), (3, False), (4, False)):
                form = naive_last.ring_form(table, many, closed)
                if not is_form(form):
                    continue
                filling = tuple(old[field % len(old)] for field in range(many))
                fields = Fields(form, filling)
                number = firings(table, old, start, many, closed=closed)
                error = raised(lambda: put(fields, start))
                self.assertIs(error is None, number is not None)
                if error is None:
                    compared += 1
                    self.assertEqual(len(fields.last), number)
                    values = tuple(value_after(table, old, start, many, field, FAR, closed=closed) for field in range(many))
                    self.assertEqual(values, fields.filling)
        self.assertGreater(compared, 500)

    def test_a_chain_is_never_endless(self):
        for table, old, start in given_rings(4, 300):
            for many in (2, 3, 50, FAR):
                self.assertLessEqual(firings(table, old, start, many, closed=False), many - 1)


def put(fields, value):
    fields[0] = value


class RulesTest(unittest.TestCase):
    def test_against_the_words(self):
        found = set()
        for given in given_rings(5, 400):
            value = endless_rule(*given)
            self.assertTrue(same(value, naive_last.endless_rule(*given)), given)
            found.add((value[0] is None, value[1]) if value[1] is not None else None)
        self.assertGreaterEqual(found, {None, (True, 0), (True, 1), (False, 0), (False, 1), (False, 2)})

    def test_as_written(self):
        self.assertEqual(endless_rule(*TURN), (None, 0, 3))
        self.assertEqual(endless_rule((1, 2, None, 0), (3, 2), 0), (3, None, None))
        self.assertEqual(endless_rule((0, 1), (1,), 0), (None, 0, 1))
        self.assertEqual(endless_rule((0, 1), (0, 1), 0), (2, 0, 1))
        self.assertEqual(endless_rule((1, 1), (0, 0, 0, 0, 0, 1), 0), (5, 1, 1))
        self.assertEqual(endless_rule((1, 2, 3, 4, 5, 6, 7, 0), (0,), 1), (7, 0, 8))

    def test_the_first_one_may_stand_far_off(self):
        # A period of 7 and one of 6 meet at last behind 41 firings, if ever.
        table = (1, 2, 3, 4, 5, 6, 0, 7)
        firsts = set()
        for place in range(6):
            for value in range(7):
                old = tuple(value if field == place else 7 for field in range(6))
                firsts.add(endless_rule(table, old, 0)[0])
        self.assertEqual(firsts, set(range(1, 43)))

    def test_count_endless(self):
        for given in given_rings(6, 300):
            for limit in (2, 3, 7, 30):
                expected = sum(firings(*given, many) is None for many in range(2, limit + 1))
                self.assertTrue(same(count_endless(*given, limit), expected), given)

    def test_count_endless_against_the_words(self):
        for given in given_rings(7, 60)[::4]:
            expected = sum(naive_last.ring_states(*given, many)[1] for many in range(2, 10))
            self.assertEqual(count_endless(*given, 9), expected)

    def test_counts_as_written(self):
        self.assertEqual(count_endless(*TURN, 10), 6)
        self.assertEqual([count_endless(*TURN, limit) for limit in (2, 3, 4, 5, 6)], [1, 1, 2, 3, 3])
        self.assertEqual(count_endless(*TURN, FAR), 666666666666666666)
        self.assertEqual(count_endless((1, 2, 0, 3), (3,), 3, FAR), 0)
        self.assertEqual(count_endless((1, 2, 0, 3), (0,), 0, FAR), 0)
        self.assertEqual(count_endless((1, 1), (0,), 1, FAR), 0)
        self.assertEqual(count_endless((1, None, 0), (2,), 0, FAR), 0)
        # A field with its old value stops all longer rings.
        self.assertEqual(count_endless((1, 0, 2), (2, 2, 2, 2, 2, 1), 0, FAR), 2)


class FarRingsTest(unittest.TestCase):
    def test_as_written(self):
        self.assertEqual([firings(*TURN, many) for many in (3, 4, 9, FAR)], [3, None, 9, None])
        chain = ((1, 2, 0, 3), (3, 3, 1), 0)
        self.assertEqual([firings(*chain, many, closed=False) for many in (2, 5, FAR)], [1, 4, FAR - 1])
        self.assertEqual([value_after(*TURN, FAR, 7, 6), value_after(*TURN, FAR, 6, FAR)], [3, 0])
        self.assertEqual(shares_after(*TURN, FAR, 4), (2, 2, 1, FAR - 5))

    def test_periods_that_divide_the_number_and_such_that_do_not(self):
        for many in (FAR, FAR - 1, FAR - 2, FAR - 3):
            self.assertEqual(firings(*TURN, many), many if many % 3 == 0 else None)
            # Two wishes stand ahead of those that recur here, and each of them fires once more.
            ahead = ((2, 3, 1, 2, 4), (4,), 0)
            self.assertEqual(endless_rule(*ahead), (None, 1, 3))
            self.assertEqual(firings(*ahead, many), many + 1 if many % 3 == 0 else None)

    def test_values_told_one_by_one(self):
        for given in given_rings(8, 120)[::7]:
            table, old, start = given
            for many in (FAR, FAR - 1, 10 ** 17 + 3, 1000):
                for closed in (True, False):
                    total = firings(*given, many, closed=closed)
                    for times in {0, 1, 5, many - 2, many - 1, many, min(many + 1, FAR), min(2 * many + 3, FAR), FAR}:
                        self.check_values(given, many, closed, times, total)

    def check_values(self, given, many, closed, times, total):
        table, old, start = given
        done = times if total is None else min(times, total)
        last = done - 1 if wish_at(table, start, done) is None else done
        for field in {0, 1, 2, 77, last % many, (last + 1) % many, many - 2, many - 1}:
            # The latest firing, or the edit, that gave the field its value.
            number = last - (last - field) % many
            value = wish_at(table, start, number) if number >= 0 else old[field % len(old)]
            self.assertTrue(same(value_after(*given, many, field, times, closed=closed), value), (given, many, times))

    def test_shares_of_all_fields(self):
        for given in given_rings(9, 120)[::7]:
            table, old, start = given
            for many in (FAR, FAR - 7, 12345):
                for closed in (True, False):
                    for times in (0, 1, many // 2, many - 1, many, FAR):
                        shares = shares_after(*given, many, times, closed=closed)
                        self.assertEqual(len(shares), len(table))
                        self.assertEqual(sum(shares), many)
                        self.assertTrue(all(share >= 0 for share in shares))

    def test_shares_go_up_by_whole_rounds(self):
        # So many fields more hold each value as often as it comes in a round of all periods.
        for given in given_rings(10, 100)[::11]:
            table, old, start = given
            round_of_all = 8 * 7 * 6 * 5 * 3 * 2
            for times in (0, 3, 11):
                one = shares_after(*given, 100, times, closed=False)
                other = shares_after(*given, 100 + round_of_all, times, closed=False)
                far = shares_after(*given, 100 + round_of_all * 10 ** 13, times, closed=False)
                self.assertEqual([a + (b - a) * 10 ** 13 for a, b in zip(one, other)], list(far))

    def test_times_and_numbers_at_both_ends(self):
        self.assertEqual(firings(*TURN, 2), None)
        self.assertEqual(value_after(*TURN, 2, 1, 0), 3)
        self.assertEqual(value_after(*TURN, FAR, FAR - 1, FAR), (FAR - 1) % 3)
        self.assertEqual(value_after(*TURN, FAR, 0, FAR), FAR % 3)
        self.assertEqual(value_after(*TURN, FAR, 0, FAR - 1), 0)
        self.assertEqual(value_after(*TURN, FAR, FAR - 1, FAR - 2), 3)
        self.assertEqual(shares_after(*TURN, FAR, 0), (1, 0, 0, FAR - 1))
        self.assertEqual(shares_after(*TURN, FAR, FAR - 1)[3], 0)

    def test_nothing_fires(self):
        for table in SMALL[::5]:
            for start in range(len(table)):
                for many in (2, 5, FAR):
                    given = (table, (start, 0), start, many)
                    self.assertEqual([firings(*given), firings(*given, closed=False)], [0, 0])
                    self.assertEqual([value_after(*given, 0, FAR), value_after(*given, 1, FAR)], [start, 0])

    def test_many_more_firings_than_the_run_has(self):
        for given in given_rings(11, 60)[::5]:
            for many in (2, 9, 10 ** 6):
                total = firings(*given, many)
                if total is not None:
                    for field in {0, 1, many - 1}:
                        self.assertEqual(value_after(*given, many, field, total), value_after(*given, many, field, FAR))
                    self.assertEqual(shares_after(*given, many, total), shares_after(*given, many, FAR))


class WrongTest(unittest.TestCase):
    def check(self, call, kind, value):
        error = raised(call)
        self.assertIs(error.__class__, kind)
        self.assertIs(error.given, value)

    def test_what_is_no_number_of_fields(self):
        for value in ANY_VALUES + [1, 0, -FAR, FAR + 1, [2], "2"]:
            if value.__class__ is int and 2 <= value <= FAR:
                continue
            calls = [
                lambda: firings(*TURN, value), lambda: firings(*TURN, value, closed=False),
                lambda: count_endless(*TURN, value), lambda: count_endless((1, 1), (0,), 0, value),
                lambda: value_after(*TURN, value, None, None), lambda: shares_after(*TURN, value, None),
                lambda: value_after(*TURN, value, 0, 0, closed=False), lambda: shares_after(*TURN, value, 0, closed=False),
            ]
            for call in calls:
                self.check(call, NoNumber, value)

    def test_what_is_no_field(self):
        for many in (2, 5, FAR):
            for value in ANY_VALUES + [many, many + 1, -1, -many, VERY_GREAT]:
                if not (value.__class__ is int and 0 <= value < many):
                    for times in (0, None, -1, GREAT):
                        self.check(lambda: value_after(*TURN, many, value, times), NoField, value)
                        self.check(lambda: value_after(*TURN, many, value, times, closed=False), NoField, value)

    def test_what_is_no_number_of_times(self):
        for value in ANY_VALUES + [FAR + 1, -1, -FAR, [0]]:
            if not (value.__class__ is int and 0 <= value <= FAR):
                for many in (2, FAR):
                    self.check(lambda: value_after(*TURN, many, 1, value), NoNumber, value)
                    self.check(lambda: shares_after(*TURN, many, value), NoNumber, value)
                    self.check(lambda: shares_after(*TURN, many, value, closed=False), NoNumber, value)

    def test_both_ends_of_each_range(self):
        for many in (2, FAR):
            self.assertIs(raised(lambda: firings(*TURN, many)), None)
            self.assertIs(raised(lambda: count_endless(*TURN, many)), None)
            for field in (0, many - 1):
                for times in (0, FAR):
                    self.assertIs(raised(lambda: value_after(*TURN, many, field, times)), None)
                    self.assertIs(raised(lambda: shares_after(*TURN, many, times)), None)

    def test_nothing_is_changed(self):
        values = [[2], {"a": [3]}, ([4], 5)]
        before = duplicate(values)
        for value in values:
            raised(lambda: firings(*TURN, value))
            raised(lambda: value_after(*TURN, 5, value, value))
            raised(lambda: shares_after(*TURN, 5, value))
        self.assertTrue(same(values, before))


if __name__ == "__main__":
    unittest.main()
