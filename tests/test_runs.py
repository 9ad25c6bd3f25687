"""[A5] and [A8]: moments, firings and orders."""

import inspect
import itertools
import unittest

from echofields.errors import BadEdit, BadFilling, BadMoment, BadOrder, NoLink
from echofields.reaches import reached
from echofields.runs import begin, fire, is_moment, least_run, moment_behind, walk_order
from tests import naive
from tests.samples import (
    ANY_VALUES, C, EMPTY_TABLE, FORMS, FULL, GREAT, LONE, NO_LINKS, P, S, T, TWINS, U, VERY_GREAT,
    duplicate, is_among, raised, same, spoiled,
)

RANDOM = naive.random_forms(1, 60, most=400)


def guarded(*guards):
    """Return T with other guards: link 0 wishes the fields unlike, link 1 alike."""
    return (T[0], tuple(link[:3] + (guard,) for link, guard in zip(T[1], guards)))


class BeginTest(unittest.TestCase):
    def test_against_the_words(self):
        for form in FORMS + RANDOM:
            for filling, edit in naive.asked(form):
                self.assertTrue(same(begin(form, filling, edit), naive.begin(form, filling, edit)))

    def test_edits_that_change_nothing(self):
        self.assertEqual(begin(T, (0, 1), (0, 0)), (0, (0, 1), (), ()))
        self.assertEqual(begin(T, (0, 1), (1, 1)), (1, (0, 1), (), ()))
        self.assertEqual(begin(LONE, (5,), (0, 5)), (0, (5,), (), ()))

    def test_all_links_of_the_field_are_pending(self):
        self.assertEqual(begin(TWINS, (0, 0), (0, 1)), (0, (1, 0), (0, 1), ()))
        self.assertEqual(begin(TWINS, (0, 0), (1, 1)), (1, (0, 1), (), ()))
        self.assertEqual(begin(FULL, (0, 0, 0, 0), (3, 1)), (3, (0, 0, 0, 1), (3, 4), ()))
        self.assertEqual(begin(FULL, (1, 0, 0, 0), (0, 0)), (0, (0, 0, 0, 0), (0, 5), ()))
        self.assertEqual(begin(NO_LINKS, (1, 2, 3), (2, 4)), (2, (1, 2, 4), (), ()))

    def test_what_is_no_filling_or_no_edit(self):
        for form in FORMS:
            rows = naive.all_fillings(form)
            edits = naive.all_edits(form)
            for value in ANY_VALUES + spoiled(rows[-1]):
                if not is_among(value, rows):
                    check_given(self, lambda: begin(form, value, edits[0]), BadFilling, value)
                    check_given(self, lambda: begin(form, value, [0, 0]), BadFilling, value)
            for value in ANY_VALUES + spoiled(edits[-1]):
                if not is_among(value, edits):
                    check_given(self, lambda: begin(form, rows[0], value), BadEdit, value)


def check_given(test, call, kind, value):
    """Check that a call raises an error of this kind that keeps the very value."""
    error = raised(call)
    test.assertIs(error.__class__, kind)
    test.assertIs(error.given, value)


class IsMomentTest(unittest.TestCase):
    def test_against_the_words(self):
        for form in (S, T, guarded(1, 3), LONE, EMPTY_TABLE):
            links = [row for many in range(4) for row in itertools.permutations(range(len(form[1])), many)]
            for field, pending, spent in itertools.product(range(-1, len(form[0]) + 1), links, links):
                for filling in ((0, 0), (1, 1), (0,), (2, 0)):
                    value = (field, filling, pending, spent)
                    self.assertIs(is_moment(form, value), naive.is_moment(form, value))

    def test_moments_to_which_no_run_comes(self):
        self.assertIs(is_moment(S, (1, (0, 0), (0,), ())), True)
        self.assertIs(is_moment(S, (1, (1, 1), (), (0,))), True)
        self.assertIs(is_moment(EMPTY_TABLE, (1, (2, 1), (), (0,))), True)
        self.assertIs(is_moment(FULL, (1, (0, 0, 0, 0), (0, 2), (1, 3, 4, 5))), True)

    def test_all_that_are_reached(self):
        for form in FORMS:
            if form is not FULL:
                for moment in reached(form):
                    self.assertIs(is_moment(form, moment), True)

    def test_spent_links_are_once_links(self):
        for guard in range(4):
            form = guarded(guard, 0)
            self.assertIs(is_moment(form, (0, (0, 0), (), (0,))), guard in (1, 3))
            self.assertIs(is_moment(form, (0, (0, 0), (0,), ())), True)
            self.assertIs(is_moment(form, (0, (0, 0), (), (1,))), False)

    def test_no_link_is_pending_and_spent(self):
        form = guarded(1, 3)
        self.assertIs(is_moment(form, (0, (0, 0), (0,), (1,))), True)
        self.assertIs(is_moment(form, (0, (0, 0), (0,), (0,))), False)
        self.assertIs(is_moment(form, (0, (0, 0), (0, 1), (1,))), False)
        self.assertIs(is_moment(form, (0, (0, 0), (), (0, 1))), True)

    def test_what_is_none(self):
        form = guarded(1, 3)
        values = [
            [0, (0, 0), (), ()], (0, (0, 0), ()), (0, (0, 0), (), (), ()), (2, (0, 0), (), ()), (-1, (0, 0), (), ()),
            (0, [0, 0], (), ()), (0, (0, 2), (), ()), (0, (0, 0), [], ()), (0, (0, 0), (), []), (0, (0, 0), (1, 0), ()),
            (0, (0, 0), (), (1, 0)), (0, (0, 0), (0, 0), ()), (0, (0, 0), (), (1, 1)), (0, (0, 0), (2,), ()),
            (0, (0, 0), (-1,), ()), (0, (0, 0), (), (2,)), (True, (0, 0), (), ()), (False, (0, 0), (), ()),
            (0, (False, 0), (), ()), (0, (0, 0), (False,), ()), (0, (0, 0), (), (True,)), (0, (0, 0), (False, 1), ()),
            (0, (0, 0), (0, True), ()), (None, (0, 0), (), ()), (0, None, (), ()), (0, (0, 0), None, ()),
            (0, (0, 0), (), None), (0, (0, 0), 0, ()), (0, (0, 0), ((0,),), ()), (0, (0, 0), (), ("0",)),
            (GREAT, (0, 0), (), ()), (0, (0, 0), (VERY_GREAT,), ()), (0, (0, 0), (), (0, VERY_GREAT)),
        ]
        for value in values:
            self.assertIs(is_moment(form, value), False, value)

    def test_values_of_all_kinds_at_every_place(self):
        for form, moment in ((guarded(1, 3), (1, (0, 1), (0,), (1,))), (FULL, (2, (1, 0, 2, 1), (0, 2), (1, 4, 5)))):
            self.assertIs(is_moment(form, moment), True)
            for value in ANY_VALUES + spoiled(moment):
                self.assertIs(is_moment(form, value), naive.is_moment(form, value))


class FireTest(unittest.TestCase):
    def test_against_the_words(self):
        for form in FORMS + RANDOM:
            for moment in list(naive.reach(form, naive.asked(form)))[:300]:
                for link in moment[2]:
                    self.assertTrue(same(fire(form, moment, link), naive.fire(form, moment, link)))

    def test_moments_to_which_no_run_comes(self):
        self.assertEqual(fire(S, (1, (1, 0), (0,), ()), 0), (1, (1, 2), (), (0,)))
        self.assertEqual(fire(U, (0, (1, 0), (0, 1), ()), 1), (0, (0, 0), (0,), ()))

    def test_a_link_without_guard(self):
        self.assertEqual(fire(T, (0, (1, 1), (0,), ()), 0), (0, (1, 0), (1,), ()))
        # The wish is what the target has already.
        self.assertEqual(fire(T, (0, (1, 0), (0,), ()), 0), (0, (1, 0), (), ()))
        # The edited field is overwritten.
        self.assertEqual(fire(T, (0, (1, 0), (1,), ()), 1), (0, (0, 0), (0,), ()))

    def test_once_links_are_spent(self):
        form = guarded(1, 1)
        self.assertEqual(fire(form, (0, (1, 1), (0,), ()), 0), (0, (1, 0), (1,), (0,)))
        self.assertEqual(fire(form, (0, (1, 0), (1,), (0,)), 1), (0, (0, 0), (), (0, 1)))
        self.assertEqual(fire(form, (0, (1, 0), (0, 1), ()), 1), (0, (0, 0), (0,), (1,)))

    def test_once_links_that_fire_for_nothing_are_spent(self):
        self.assertEqual(fire(guarded(1, 0), (0, (1, 0), (0,), ()), 0), (0, (1, 0), (), (0,)))
        self.assertEqual(fire(EMPTY_TABLE, (0, (1, 0), (0,), ()), 0), (0, (1, 0), (), (0,)))
        self.assertEqual(fire(guarded(0, 3), (0, (1, 0), (1,), ()), 1), (0, (1, 0), (), (1,)))

    def test_shy_links_spare_the_edited_field(self):
        self.assertEqual(fire(guarded(0, 2), (0, (1, 0), (1,), ()), 1), (0, (1, 0), (), ()))
        self.assertEqual(fire(guarded(0, 2), (1, (1, 0), (1,), ()), 1), (1, (0, 0), (0,), ()))
        self.assertEqual(fire(guarded(0, 3), (1, (1, 0), (1,), ()), 1), (1, (0, 0), (0,), (1,)))
        self.assertEqual(fire(C, (0, (1, 2, 1), (1, 2), ()), 2), (0, (1, 2, 1), (1,), ()))
        self.assertEqual(fire(C, (1, (1, 2, 1), (1, 2), ()), 2), (1, (2, 2, 1), (0, 1), ()))

    def test_links_with_equal_tuples_fire_by_themselves(self):
        self.assertEqual(fire(TWINS, (0, (1, 0), (0, 1), ()), 1), (0, (1, 1), (0,), ()))
        self.assertEqual(fire(TWINS, (0, (1, 1), (0,), ()), 0), (0, (1, 1), (), ()))

    def test_what_is_woken_joins_what_is_pending(self):
        moment = (1, (0, 2, 1, 0), (1, 2), ())
        self.assertEqual(fire(FULL, moment, 2), (1, (0, 2, 1, 0), (1,), ()))
        self.assertEqual(fire(FULL, moment, 1), (1, (0, 2, 2, 0), (2,), (1,)))
        self.assertEqual(fire(FULL, (1, (0, 2, 2, 0), (2,), (1, 4)), 2), (1, (0, 2, 2, 1), (3,), (1, 4)))
        self.assertEqual(fire(FULL, (3, (0, 2, 2, 0), (2, 4), (1,)), 4), (3, (1, 2, 2, 0), (0, 2, 5), (1, 4)))

    def test_what_is_no_moment(self):
        form = guarded(1, 3)
        for value in ANY_VALUES + spoiled((1, (0, 1), (0,), (1,))):
            if not naive.is_moment(form, value):
                check_given(self, lambda: fire(form, value, 0), BadMoment, value)
                check_given(self, lambda: fire(form, value, None), BadMoment, value)

    def test_what_is_not_pending(self):
        form = guarded(1, 3)
        for pending in ((), (0,), (1,), (0, 1)):
            for value in ANY_VALUES:
                if not is_among(value, pending):
                    check_given(self, lambda: fire(form, (0, (0, 0), pending, ()), value), NoLink, value)
        check_given(self, lambda: fire(form, (0, (0, 0), (1,), (0,)), 0), NoLink, 0)
        for truth in (True, False):
            check_given(self, lambda: fire(form, (0, (0, 0), (0, 1), ()), truth), NoLink, truth)

    def test_nothing_is_changed(self):
        values = [[0, (0, 0), [0], ()], (0, [0, 0], (0,), ()), {"a": [0]}]
        before = duplicate(values)
        for value in values:
            raised(lambda: fire(T, value, value))
            raised(lambda: fire(T, (0, (0, 0), (0,), ()), value))
            is_moment(T, value)
        self.assertTrue(same(values, before))


class OrderTest(unittest.TestCase):
    """What moment_behind and walk_order say of the same orders."""

    def check(self, form, filling, edit, order):
        moments = naive.walk(form, naive.begin(form, filling, edit), order)
        if len(moments) == len(order) + 1:
            self.assertTrue(same(moment_behind(form, filling, edit, order), moments[-1]))
            self.assertTrue(same(list(walk_order(form, filling, edit, order)), moments))
        else:
            self.check_place(form, filling, edit, order, moments)

    def check_place(self, form, filling, edit, order, moments):
        error = raised(lambda: moment_behind(form, filling, edit, order))
        self.assertIs(error.__class__, BadOrder)
        self.assertTrue(same(error.number, len(moments) - 1))
        seen = []
        error = raised(lambda: seen.extend(walk_order(form, filling, edit, order)))
        self.assertIs(error.__class__, BadOrder)
        self.assertTrue(same(error.number, len(moments) - 1))
        for expected, moment in zip(moments, walk_order(form, filling, edit, order)):
            self.assertTrue(same(moment, expected))

    def test_all_short_orders(self):
        for form in (S, T, P, TWINS, C, guarded(1, 2), guarded(3, 0), LONE):
            many = len(form[1]) + 1
            for filling, edit in naive.asked(form)[::3]:
                for length in range(4):
                    for order in itertools.product(range(many), repeat=length):
                        self.check(form, filling, edit, order)

    def test_orders_of_no_link(self):
        for form in FORMS:
            for filling, edit in naive.asked(form)[:40]:
                self.check(form, filling, edit, ())

    def test_orders_that_go_round(self):
        self.check(T, (0, 0), (1, 1), (1, 0, 1, 0) * 30)
        self.check(T, (0, 0), (1, 1), (1, 0, 1, 0) * 30 + (0,))

    def test_orders_of_3000_links_and_of_3001(self):
        order = (1, 0) * 1500
        self.assertEqual(moment_behind(T, (0, 0), (1, 1), order), begin(T, (0, 0), (1, 1)))
        self.assertEqual(len(list(walk_order(T, (0, 0), (1, 1), order))), 3001)
        for value in (order + (1,), order + (0,), (0,) * 3001, (None,) * 3001):
            self.check_no_order(T, (0, 0), (1, 1), value)
        self.check(T, (0, 0), (1, 1), order[:-1] + (1,))
        self.check(T, (0, 0), (1, 1), (7,) * 3000)

    def check_no_order(self, form, filling, edit, value):
        for call in (lambda: moment_behind(form, filling, edit, value),
                     lambda: list(walk_order(form, filling, edit, value))):
            error = raised(call)
            self.assertIs(error.__class__, BadOrder)
            self.assertIs(error.number, None)

    def test_what_is_no_tuple(self):
        for value in ANY_VALUES:
            if value.__class__ is not tuple or len(value) > 3000:
                self.check_no_order(T, (0, 0), (1, 1), value)
                self.check_no_order(LONE, (0,), (0, 0), value)
        self.check_no_order(T, (0, 0), (1, 1), [1, 0])

    def test_items_that_are_not_pending(self):
        for value in ANY_VALUES:
            for form in (T, TWINS):
                self.check(form, (0, 0), (0, 1), (value,))
                self.check(form, (0, 0), (0, 1), (0, value, 0))
        for truth in (False, True):
            self.check(T, (0, 0), (truth + 0, 1), (truth,))

    def test_the_filling_comes_first_then_the_edit_then_the_order(self):
        for order in (None, (), (9,), [0], (0,) * 3001):
            for call in (moment_behind, lambda *given: list(walk_order(*given))):
                for filling in ([0, 0], (0, 2), None, (True, 0)):
                    for edit in ((0, 1), (0, 2), [0, 1], None):
                        check_given(self, lambda: call(T, filling, edit, order), BadFilling, filling)
                for edit in ((0, 2), [0, 1], None, (False, 1), (0, True)):
                    check_given(self, lambda: call(T, (0, 0), edit, order), BadEdit, edit)

    def test_what_is_no_filling_or_no_edit(self):
        for call in (moment_behind, lambda *given: list(walk_order(*given))):
            for value in ANY_VALUES + spoiled((0, 1)):
                if not naive.is_filling(T, value):
                    check_given(self, lambda: call(T, value, (0, 1), ()), BadFilling, value)
                if not naive.is_edit(T, value):
                    check_given(self, lambda: call(T, (0, 1), value, ()), BadEdit, value)

    def test_walk_order_is_a_generator(self):
        self.assertTrue(inspect.isgeneratorfunction(walk_order))
        steps = walk_order(T, (0, 0), (1, 1), (1, 9))
        self.assertEqual([next(steps), next(steps)], [(1, (0, 1), (1,), ()), (1, (1, 1), (0,), ())])
        error = raised(lambda: next(steps))
        self.assertEqual((error.__class__, error.number), (BadOrder, 1))

    def test_nothing_is_changed(self):
        values = [[1, 0], ([1], 0), {"a": [0]}, (1, [0])]
        before = duplicate(values)
        for value in values:
            raised(lambda: moment_behind(T, (0, 0), (1, 1), value))
            raised(lambda: list(walk_order(T, (0, 0), (1, 1), value)))
            raised(lambda: moment_behind(T, value, value, value))
            raised(lambda: begin(T, (0, 0), value))
        self.assertTrue(same(values, before))


class LeastRunTest(unittest.TestCase):
    def test_always_the_least_pending_link_fires(self):
        for form in FORMS + RANDOM:
            for filling, edit in naive.asked(form)[::5]:
                word, found, links = least_run(form, filling, edit)
                moments = naive.walk(form, naive.begin(form, filling, edit), links if word == "end" else found + links)
                fired = [moment[2][0] for moment in moments if moment[2]]
                if word == "end":
                    self.assertEqual((found, list(links)), (moments[-1][1], fired))
                    self.assertEqual(moments[-1][2], ())
                else:
                    self.assertEqual(list(found + links), fired[:-1])
                    self.assertEqual(moments.index(moments[-1]), len(found))
                    self.assertEqual(len(set(moments)), len(moments) - 1)

if __name__ == "__main__":
    unittest.main()
