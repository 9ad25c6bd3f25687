"""[E1] to [E3]: forms that come to the same, and links that can be left out."""

import unittest
from unittest import mock

from echofields.errors import TooManyMoments, UnlikeForms
from echofields.likeness import difference_holds, find_difference, idle_links, idle_sets
from tests import checks, naive, naive_more
from tests.checks import IDLING, ONE_LINK, QUIET, WHIRL, whirling_order
from tests.samples import (
    ALSO_3001, ANY_VALUES, C, FORMS, FULL, GREAT, JUST_3001, LONE, NO_LINKS, P, Q, RESTING_3000, S, SOME_VALUES, T,
    TURNING_3000, TWINS, U, V, VERY_GREAT, duplicate, raised, same, spoiled,
)

ONCE = ((2, 2), ((0, 1, (1, 0), 0), (1, 0, (0, 1), 1)))
P_LESS = ((2, 2), P[1][:1])
SHY_COPY = ((2, 2), ((0, 1, (0, 1), 2),))
ENDLESS = (
    "endless", (0, 0), (1, 1), 0, (), (1, 0, 1, 0),
    (((1, (0, 1), (1,), ()), 2), ((1, (1, 0), (), (1,)), 0), ((1, (1, 1), (0,), (1,)), 1)),
)
END = ("end", (0, 0), (0, 1), 0, (0, 1), ((0, (1, 0), (), ()), (0, (1, 0), (0,), ())))
# Link 1 can be left out, or links 0 and 2 together, but none of these alone.
TOGETHER = (
    (3, 2),
    ((0, 1, (1, 1, None), 0), (0, 1, (0,) * 3, 1), (0, 1, (0,) * 3, 0), (1, 0, (0, 0), 1), (0, 1, (1,) * 3, 1)),
)


def pairs():
    """Return pairs of forms of equal sizes: forms with another guard, with links left out, exchanged or doubled."""
    found = []
    for form in FORMS[:-1] + checks.MIXED[::3]:
        sizes, links = form
        found.append((form, form))
        for link in range(len(links)):
            source, target, table, guard = links[link]
            found.append((form, naive_more.left_out(form, (link,))))
            found.append((naive_more.left_out(form, (link,)), form))
            other = (source, target, table, (guard + 1) % 4)
            found.append((form, (sizes, links[:link] + (other,) + links[link + 1:])))
            found.append((form, (sizes, links[link:] + links[:link])))
    return found


PAIRS = pairs()


class FindDifferenceTest(unittest.TestCase):
    def test_against_the_words(self):
        words = set()
        for one, other in PAIRS:
            value = find_difference(one, other)
            self.assertTrue(same(value, naive_more.find_difference(one, other)), (one, other))
            if value is not None:
                self.assertIs(difference_holds(one, other, value), True)
                self.assertIs(difference_holds(other, one, value), naive_more.difference_holds(other, one, value))
                words.add((value[0], value[3]))
            else:
                words.add(None)
        self.assertEqual(words, {None, ("endless", 0), ("endless", 1), ("end", 0), ("end", 1)})

    def test_as_written(self):
        self.assertTrue(same(find_difference(P, P_LESS), END))
        self.assertTrue(same(find_difference(T, ONCE), ENDLESS))
        self.assertIs(find_difference(TWINS, SHY_COPY), None)

    def test_in_either_place(self):
        self.assertTrue(same(find_difference(P_LESS, P), END[:3] + (1,) + END[4:]))
        self.assertTrue(same(find_difference(ONCE, T), ENDLESS[:3] + (1,) + ENDLESS[4:]))

    def test_a_difference_at_one_beginning_alone(self):
        one, other = ((2, 2), ((0, 1, (None, 1), 0),)), ((2, 2), ())
        told = [naive_more.comings(form) for form in (one, other)]
        self.assertEqual([row for row in told[0] if told[0][row] != told[1][row]], [((0, 0), (0, 1))])
        self.assertEqual(find_difference(one, other)[:5], ("end", (0, 0), (0, 1), 1, ()))
        self.assertEqual(find_difference(other, one)[:5], ("end", (0, 0), (0, 1), 0, ()))
        one, other = ((2, 2), ((0, 1, (None, 0), 0),)), ((2, 2), ())
        self.assertEqual(find_difference(one, other)[:5], ("end", (0, 1), (0, 1), 0, (0,)))
        self.assertEqual(find_difference(other, one)[:5], ("end", (0, 1), (0, 1), 1, (0,)))

    def test_forms_without_links(self):
        self.assertIs(find_difference(LONE, LONE), None)
        self.assertIs(find_difference(NO_LINKS, NO_LINKS), None)
        self.assertIs(find_difference(QUIET, ((6, 6), ())), None)

    def test_great_forms(self):
        for form in (RESTING_3000, TURNING_3000):
            for other in (naive_more.left_out(form, (5,)), naive_more.left_out(form, (0, 3))):
                value = find_difference(form, other)
                self.assertTrue(same(value, naive_more.find_difference(form, other)))
                self.assertIs(difference_holds(form, other, value), True)


class DifferenceHoldsTest(unittest.TestCase):
    def check(self, one, other, value, expected):
        self.assertIs(naive_more.difference_holds(one, other, value), expected)
        self.assertIs(difference_holds(one, other, value), expected)

    def test_variants_of_evidence(self):
        cases = [(P, P_LESS), (P_LESS, P), (T, ONCE), (ONCE, T), (S, ((2, 3), ())), (WHIRL, U), (V, T)]
        for one, other in cases:
            value = find_difference(one, other)
            before = duplicate(value)
            for variant in spoiled(value, SOME_VALUES) + checks.row_variants(value) + ANY_VALUES:
                self.assertIs(difference_holds(one, other, variant),
                              naive_more.difference_holds(one, other, variant), variant)
            self.assertTrue(same(value, before))

    def test_evidence_for_other_forms(self):
        forms = [form for form in FORMS if form[0] == (2, 2)] + [ONCE, P_LESS, SHY_COPY, WHIRL, IDLING, ONE_LINK]
        found = [(one, other, find_difference(one, other)) for one in forms for other in forms]
        for one, other, _ in found:
            for _, _, value in found[::3]:
                self.assertIs(difference_holds(one, other, value), naive_more.difference_holds(one, other, value))

    def test_other_evidence(self):
        rows = ENDLESS[6]
        self.check(T, ONCE, ENDLESS, True)
        self.check(T, ONCE, ENDLESS[:4] + ((1, 0), (1, 0, 1, 0) * 3, rows), True)
        self.check(T, ONCE, ENDLESS[:4] + ((1,), (1, 0, 1, 0), rows), False)
        self.check(T, ONCE, ENDLESS[:4] + ((), (), rows), False)
        self.check(T, ONCE, ENDLESS[:3] + (1,) + ENDLESS[4:], False)
        self.check(T, T, ENDLESS, False)
        higher = tuple((moment, height + 7) for moment, height in rows)
        self.check(T, ONCE, ENDLESS[:6] + (higher,), True)
        self.check(T, ONCE, ENDLESS[:6] + (rows[1:],), False)
        more = tuple(sorted(rows + (((0, (0, 0), (), ()), GREAT), ((0, (0, 0), (), (1,)), VERY_GREAT))))
        self.check(T, ONCE, ENDLESS[:6] + (more,), True)
        self.check(P, P_LESS, END[:5] + (tuple(sorted(END[5] + ((1, (0, 0), (), ()),))),), True)
        self.check(P, P_LESS, END[:5] + (tuple(sorted(END[5] + ((0, (1, 1), (), ()),))),), False)
        self.check(P, P_LESS, END[:4] + ((1, 0), END[5]), False)
        self.check(P, P_LESS, END[:4] + ((0,), END[5]), False)
        self.check(P, P, END, False)

    def test_3000_links_and_3001(self):
        # U comes from this beginning to (1, 1) alone, so an end at (0, 0) is another one.
        moments = tuple(sorted(naive.reach(U, [((0, 0), (0, 1))])))
        for many in (18, 2999, 3000, 3001):
            order = whirling_order(many, 0)
            self.check(WHIRL, U, ("end", (0, 0), (0, 1), 0, order, moments), many <= 3000)
            self.check(U, WHIRL, ("end", (0, 0), (0, 1), 1, order, moments), many <= 3000)
            self.check(U, WHIRL, ("end", (0, 0), (0, 1), 1, whirling_order(many, 1), moments), False)
        rows = ENDLESS[6]
        for many in (2996, 3000, 3004):
            self.check(T, ONCE, ENDLESS[:4] + ((1, 0) * (many // 2), (1, 0, 1, 0), rows), many <= 3000)
            self.check(T, ONCE, ENDLESS[:4] + ((), (1, 0) * (many // 2), rows), many <= 3000)

    def test_3000_rows_and_3001(self):
        # In QUIET nothing comes of the edits, in the other form field 1 becomes 1.
        other = ((6, 6), ((0, 1, (1,) * 6, 0),))
        for many in (2999, 3000, 3001):
            moments = tuple(checks.quiet_moments(many))
            self.check(other, QUIET, ("end", (0, 0), (0, 1), 0, (0,), without_end(moments, (1, 1))), many <= 3001)
            self.check(other, QUIET, ("end", (0, 0), (0, 1), 0, (0,), moments), False)
            rows = tuple((moment, len(moment[2])) for moment in moments)
            turning = ((6, 6), ((0, 1, (1, 0) * 3, 0), (1, 0, (0, 1) * 3, 0)))
            ring = find_endless_at(turning)
            self.check(turning, QUIET, ("endless", (0, 0), (1, 1), 0, *ring, rows), many <= 3000)
            self.check(QUIET, turning, ("endless", (0, 0), (1, 1), 1, *ring, rows), many <= 3000)

    def test_ends_of_any_size(self):
        other = ((6, 6), ((0, 1, (1,) * 6, 0),))
        lacking = [moment for moment in checks.quiet_moments(4000) if moment[2] or moment[1] != (1, 1)]
        for many in (2999, 3000, 3001):
            moments = closed_part(QUIET, lacking, many)
            self.assertEqual(len(moments), many)
            self.check(other, QUIET, ("end", (0, 0), (0, 1), 0, (0,), moments), many <= 3000)

    def test_which_is_an_integer(self):
        for which in (False, None, 1, -1, 2, "0", (0,), [0]):
            self.check(P, P_LESS, END[:3] + (which,) + END[4:], False)
            self.check(T, ONCE, ENDLESS[:3] + (which,) + ENDLESS[4:], False)
        self.check(P_LESS, P, END[:3] + (True,) + END[4:], False)


def without_end(moments, end):
    """Return the moments from which no order leads to a moment that is over with this end, in a form like QUIET."""
    return tuple(moment for moment in moments if moment[1] != end)


def closed_part(form, moments, many):
    """Return so many of the moments from which no firing leads out of them."""
    moments = set(moments)
    while True:
        left = {moment for moment in moments if all(step in moments for step in naive.steps(form, moment))}
        if left == moments:
            break
        moments = left
    found = sorted(moments, key=lambda moment: (moment[1] != (1, 0), len(moment[2]), moment))
    return tuple(sorted(found[:many]))


def find_endless_at(form):
    found = naive.reach(form, [((0, 0), (1, 1))])
    return naive.endless_orders(found, naive.begin(form, (0, 0), (1, 1)))


class IdleTest(unittest.TestCase):
    def test_against_the_words(self):
        found = set()
        for form in FORMS[:-1] + checks.MIXED[::2] + [TOGETHER, IDLING, WHIRL]:
            links, sets = idle_links(form), idle_sets(form)
            self.assertTrue(same(links, naive_more.idle_links(form)), form)
            self.assertTrue(same(sets, naive_more.idle_sets(form)), form)
            found.add((len(links) > 0, sets == ((),), len(sets) > 1))
        self.assertGreaterEqual(found, {(False, True, False), (True, False, False), (True, False, True)})

    def test_as_written(self):
        self.assertEqual([idle_links(P), idle_links(TWINS), idle_sets(TWINS)], [(), (0, 1), ((0,), (1,))])
        self.assertEqual([idle_links(LONE), idle_sets(LONE)], [(), ((),)])

    def test_links_that_wish_nothing(self):
        self.assertEqual([idle_links(QUIET), idle_sets(QUIET)], [(0, 1, 2, 3, 4, 5), ((0, 1, 2, 3, 4, 5),)])
        self.assertEqual([idle_links(IDLING), idle_sets(IDLING)], [(2,), ((2,),)])

    def test_links_that_can_be_left_out_together_but_not_one_by_one(self):
        self.assertEqual([idle_links(TOGETHER), idle_sets(TOGETHER)], [(1,), ((0, 2), (1,))])
        self.assertEqual(idle_sets(TOGETHER), naive_more.idle_sets(TOGETHER))

    def test_great_forms(self):
        for form in (RESTING_3000, TURNING_3000):
            self.assertEqual(idle_links(form), naive_more.idle_links(form))
        self.assertEqual(idle_sets(FULL), naive_more.idle_sets(FULL))


class WrongTest(unittest.TestCase):
    def test_unlike_forms(self):
        for one in FORMS + [JUST_3001, ALSO_3001]:
            for other in FORMS + [JUST_3001, ALSO_3001]:
                if one[0] != other[0]:
                    for value in (None, ENDLESS, END):
                        self.assertIs(raised(lambda: difference_holds(one, other, value)).__class__, UnlikeForms)
                    self.assertIs(raised(lambda: find_difference(one, other)).__class__, UnlikeForms)

    def test_too_many_moments_of_any_of_both(self):
        for form in (JUST_3001, ALSO_3001):
            plain = (form[0], ())
            for one, other in ((form, plain), (plain, form), (form, form)):
                for value in (None, ENDLESS, END):
                    self.assertIs(raised(lambda: difference_holds(one, other, value)).__class__, TooManyMoments)
                self.assertIs(raised(lambda: find_difference(one, other)).__class__, TooManyMoments)
            self.assertIs(raised(lambda: idle_links(form)).__class__, TooManyMoments)
            self.assertIs(raised(lambda: idle_sets(form)).__class__, TooManyMoments)
            self.assertIs(find_difference(plain, plain), None)

    def test_the_limit(self):
        for one, other in ((S, ((2, 3), ())), (T, ONCE), (Q, (Q[0], Q[1][:1])), (P_LESS, P)):
            many = max(len(naive.reach(form, naive.asked(form))) for form in (one, other))
            for limit in (many - 1, many):
                with mock.patch("echofields.reaches.MAX_MOMENTS", limit):
                    for call in (lambda: find_difference(one, other), lambda: difference_holds(one, other, None)):
                        self.assertIs(raised(call).__class__ is TooManyMoments, limit < many)
        for form in (S, T, C):
            many = len(naive.reach(form, naive.asked(form)))
            for limit in (many - 1, many):
                with mock.patch("echofields.reaches.MAX_MOMENTS", limit):
                    for call in (lambda: idle_links(form), lambda: idle_sets(form)):
                        self.assertIs(raised(call).__class__ is TooManyMoments, limit < many)

    def test_nothing_is_changed(self):
        values = [list(END), END[:5] + (list(END[5]),), {"a": [0]}, ("end", [0, 0], (0, 1), 0, [0], [])]
        before = duplicate(values)
        for value in values:
            self.assertIs(difference_holds(P, P_LESS, value), False)
        self.assertTrue(same(values, before))


if __name__ == "__main__":
    unittest.main()
