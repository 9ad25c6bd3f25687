"""[A7]: rings of links and ranks of fields."""

import itertools
import unittest

from echofields.forms import field_ring, ring_holds
from tests.samples import (
    ANY_VALUES, C, FORMS, FULL, GREAT, LONE, NO_LINKS, P, Q, S, T, VERY_GREAT,
    duplicate, same, skeletons, spoiled,
)


def closes(form, walk):
    """Tell by the words of [A7] whether a tuple of links is a ring."""
    ends = [form[1][link][:2] for link in walk]
    return all(one[1] == other[0] for one, other in zip(ends, ends[1:] + ends[:1]))


def naive_ring(form):
    for many in range(1, 5):
        for walk in itertools.product(range(len(form[1])), repeat=many):
            if closes(form, walk):
                return walk
    return None


def longest_to(form, field):
    """Return how many links at the most lead to a field one after another, where there is no ring."""
    return max([longest_to(form, link[0]) + 1 for link in form[1] if link[1] == field], default=0)


def naive_field_ring(form):
    ring = naive_ring(form)
    if ring is not None:
        return ("ring", ring)
    return ("ranks", tuple(longest_to(form, field) for field in range(len(form[0]))))


def between(many_fields, *ends):
    return ((2,) * many_fields, tuple((source, target, (0, None), 0) for source, target in ends))


class FieldRingTest(unittest.TestCase):
    def test_against_the_words(self):
        forms = list(FORMS)
        for many_fields, many_links in ((2, 0), (2, 6), (3, 1), (3, 2), (3, 3), (3, 4), (4, 2), (4, 3)):
            forms.extend(skeletons(many_fields, many_links))
        forms.extend(skeletons(4, 4, step=7))
        forms.extend(skeletons(4, 5, step=271))
        forms.extend(skeletons(4, 6, step=3001))
        for form in forms:
            found = field_ring(form)
            self.assertTrue(same(found, naive_field_ring(form)), f"{found} for {form}")
            self.assertIs(ring_holds(form, found), True)

    def test_without_links(self):
        self.assertEqual(field_ring(LONE), ("ranks", (0,)))
        self.assertEqual(field_ring(NO_LINKS), ("ranks", (0, 0, 0)))

    def test_ranks_count_the_longest_way(self):
        self.assertEqual(field_ring(P), ("ranks", (0, 1)))
        self.assertEqual(field_ring(Q), ("ranks", (0, 1, 2)))
        self.assertEqual(field_ring(between(4, (2, 3), (1, 2), (0, 1), (0, 3))), ("ranks", (0, 1, 2, 3)))
        self.assertEqual(field_ring(between(4, (3, 2), (2, 1), (1, 0), (3, 0))), ("ranks", (3, 2, 1, 0)))
        self.assertEqual(field_ring(between(4, (0, 2), (1, 2))), ("ranks", (0, 0, 1, 0)))

    def test_rings_of_each_length(self):
        self.assertEqual(field_ring(between(4, (1, 0), (0, 1))), ("ring", (0, 1)))
        self.assertEqual(field_ring(between(4, (0, 1), (2, 0), (1, 2))), ("ring", (0, 2, 1)))
        self.assertEqual(field_ring(between(4, (3, 0), (2, 3), (1, 2), (0, 1))), ("ring", (0, 3, 2, 1)))
        self.assertEqual(field_ring(FULL), ("ring", (2, 3, 5)))

    def test_the_shortest_ring_goes_first(self):
        form = between(4, (0, 1), (1, 2), (2, 3), (3, 0), (3, 2))
        self.assertEqual(field_ring(form), ("ring", (2, 4)))
        self.assertEqual(field_ring(C), ("ring", (0, 2)))

    def test_of_equally_short_rings_the_smallest_tuple(self):
        self.assertEqual(field_ring(between(2, (0, 1), (0, 1), (1, 0), (1, 0))), ("ring", (0, 2)))
        self.assertEqual(field_ring(between(4, (2, 3), (0, 1), (1, 0), (3, 2))), ("ring", (0, 3)))
        self.assertEqual(field_ring(between(3, (0, 1), (1, 2), (1, 2), (2, 0), (2, 0))), ("ring", (0, 1, 3)))
        self.assertEqual(field_ring(between(4, (3, 2), (0, 1), (2, 3), (1, 0))), ("ring", (0, 2)))

    def test_tables_and_guards_make_no_difference(self):
        for guard in range(4):
            for table in ((None, None), (0, 0), (0, 1)):
                form = ((2, 2), ((0, 1, table, guard), (1, 0, table, guard)))
                self.assertEqual(field_ring(form), ("ring", (0, 1)))


class RingHoldsTest(unittest.TestCase):
    def test_rings_of_any_length(self):
        for form in (T, C, FULL, between(3, (0, 1), (0, 1), (1, 0), (1, 2))):
            many = len(form[1])
            for length in range(1, 5):
                for walk in itertools.product(range(many), repeat=length):
                    self.assertIs(ring_holds(form, ("ring", walk)), closes(form, walk))

    def test_links_may_come_again(self):
        self.assertIs(ring_holds(T, ("ring", (1, 0))), True)
        self.assertIs(ring_holds(T, ("ring", (0, 1, 0, 1))), True)
        self.assertIs(ring_holds(T, ("ring", (0, 1) * 10000)), True)
        self.assertIs(ring_holds(T, ("ring", (0, 1) * 10000 + (0,))), False)
        self.assertIs(ring_holds(T, ("ring", (0, 1) * 5000 + (1, 0) * 5000)), False)
        self.assertIs(ring_holds(FULL, ("ring", (0, 1, 2, 3, 5, 2, 4))), True)

    def test_what_is_no_ring(self):
        for links in ((), (0,), (0, 0), (0, 2), (0, -1), (-2, -1), (0, 1, 0), (True, False), (False, True), (0, True),
                      [0, 1], (0, 1, None), (0, "1"), (0, (1,)), (0, GREAT), (VERY_GREAT, 0), None, 0, "01", {}):
            self.assertIs(ring_holds(T, ("ring", links)), False)
        self.assertIs(ring_holds(S, ("ring", (0,))), False)
        self.assertIs(ring_holds(LONE, ("ring", ())), False)

    def test_ranks_of_any_size(self):
        for ranks in ((0, 1), (0, 2), (5, 6), (0, GREAT), (GREAT, GREAT + 1), (7, VERY_GREAT), (0, 40)):
            self.assertIs(ring_holds(S, ("ranks", ranks)), True)
        for ranks in ((0, 0), (1, 0), (1, 1), (GREAT, 7), (VERY_GREAT, VERY_GREAT), (-1, 0), (-2, -1), (0, -1)):
            self.assertIs(ring_holds(S, ("ranks", ranks)), False)
        self.assertIs(ring_holds(LONE, ("ranks", (GREAT,))), True)
        self.assertIs(ring_holds(LONE, ("ranks", (-1,))), False)
        self.assertIs(ring_holds(NO_LINKS, ("ranks", (3, 3, 0))), True)

    def test_all_small_ranks(self):
        for form in (P, Q, S, NO_LINKS, T, C, between(3, (2, 1), (1, 0))):
            for ranks in itertools.product(range(4), repeat=len(form[0])):
                right = all(ranks[link[1]] > ranks[link[0]] for link in form[1])
                self.assertIs(ring_holds(form, ("ranks", ranks)), right)

    def test_what_are_no_ranks(self):
        for ranks in ((False, 1), (0, True), (False, True), [0, 1], (0,), (1,), (0, 1, 2), (), None, 1, "01", {},
                      (None, 1), ("0", "1"), (0, (1,)), ((0, 1),), ([0], 1)):
            self.assertIs(ring_holds(S, ("ranks", ranks)), False)

    def test_other_values(self):
        values = [
            ["ring", (0, 1)], ("ring",), ("ring", (0, 1), ()), ("rings", (0, 1)), ((0, 1), "ring"), ("Ring", (0, 1)),
            ("ranks", (0, 1)), (None, (0, 1)), (("ring",), (0, 1)), {"ring": (0, 1)}, "ring", (0, 1), ("ring", 0, 1),
        ]
        for value in ANY_VALUES + values:
            self.assertIs(ring_holds(T, value), False)

    def test_all_kinds_of_values_at_every_place(self):
        for form, good in ((T, ("ring", (0, 1))), (Q, ("ranks", (0, 1, 2)))):
            for value in spoiled_evidence(good):
                self.assertIs(ring_holds(form, value), naive_holds(form, value))

    def test_nothing_is_changed(self):
        for value in (["ring", [0, 1]], ("ring", [0, 1]), ("ranks", [0, {"a": 1}]), {"ring": [0]}):
            before = duplicate(value)
            ring_holds(T, value)
            self.assertTrue(same(value, before))


def spoiled_evidence(value):
    """Return variants of a pair of a word and numbers."""
    word, numbers = value
    found = [(word, items) for items in spoiled(numbers)]
    found.extend((item, numbers) for item in ANY_VALUES)
    found.extend([list(value), value[:1], value + (0,), numbers, (numbers, word)])
    return found


def naive_holds(form, value):
    if not (value.__class__ is tuple and len(value) == 2 and value[1].__class__ is tuple):
        return False
    numbers = value[1]
    if any(item.__class__ is not int or item < 0 for item in numbers):
        return False
    if value[0] == "ring":
        return numbers != () and max(numbers) < len(form[1]) and closes(form, numbers)
    if value[0] == "ranks":
        return len(numbers) == len(form[0]) and all(numbers[link[1]] > numbers[link[0]] for link in form[1])
    return False


if __name__ == "__main__":
    unittest.main()
