"""[B7]: the shortest and the longest order, and orders that are counted."""

import unittest
from unittest import mock

from echofields.counting import longest_order, many_orders, order_at, order_number, shortest_order
from echofields.errors import BadEdit, BadFilling, BadOrder, Endless, NoNumber, TooManyMoments
from tests import checks, naive
from tests.checks import WHIRL
from tests.samples import (
    ANY_VALUES, C, CALM_3000, FULL, GREAT, JUST_3001, LONE, P, Q, RESTING_3000, S, T, TURNING_3000, TWINS, U, V,
    VERY_GREAT, duplicate, is_among, raised, same,
)

QQ = (Q, (0, 0, 0), (0, 1))
TT = (T, (0, 0), (1, 1))
# From these beginnings no run is endless, and there are more whole orders than could be gone through.
VERY_MANY = [
    (
        (
            (6, 6),
            (
                (1, 0, (4, 5, 2, 4, 2, 0), 3), (0, 1, (2, 4, 1, 4, 4, 5), 0), (0, 1, (2, 5, 3, 1, None, 3), 2),
                (1, 0, (1, None, 4, None, None, None), 2), (1, 0, (1, 2, 4, 1, 2, 0), 0), (0, 1, (5, 4, 4, 4, 0, 3), 0),
            ),
        ), (2, 0), (1, 5),
    ),
    (
        (
            (5, 6),
            (
                (1, 0, (1, 4, 1, 3, 1, 4), 2), (0, 1, (0, 3, 2, 1, 2), 1), (1, 0, (3, 3, 0, 2, None, 4), 2),
                (1, 0, (3, 0, 1, 1, 3, 2), 2), (0, 1, (0, 3, 0, None, 5), 2), (0, 1, (0, None, None, 3, None), 0),
            ),
        ), (3, 3), (1, 2),
    ),
]
RESTING = [form for form in checks.MIXED if not naive.endless_moments(naive.reach(form, naive.asked(form)))]
TURNING = [form for form in checks.MIXED if form not in RESTING]


def counted(found, start):
    """Return the number of whole orders from a moment, where no run is endless, without going through them."""
    counts = {}
    heights = naive.heights(found)
    for moment in sorted(found, key=lambda moment: heights[moment]):
        counts[moment] = sum(counts[step] for step in found[moment].values()) if moment[2] else 1
    return counts[start]


class CountingTest(unittest.TestCase):
    def check(self, form, filling, edit):
        found = naive.reach(form, [(filling, edit)])
        start = naive.begin(form, filling, edit)
        many = counted(found, start)
        self.assertTrue(same(many_orders(form, filling, edit), many))
        if many <= 3000:
            self.check_orders((form, filling, edit), naive.whole_orders(found, start))

    def check_orders(self, given, orders):
        self.assertEqual(orders, sorted(orders))
        self.assertEqual(many_orders(*given), len(orders))
        self.assertTrue(same(shortest_order(*given), min(orders, key=lambda order: (len(order), order))))
        self.assertTrue(same(longest_order(*given), min(orders, key=lambda order: (-len(order), order))))
        for number in {0, 1, 2, len(orders) // 2, len(orders) - 1} & set(range(len(orders))):
            self.assertTrue(same(order_at(*given, number), orders[number]))
            self.assertTrue(same(order_number(*given, orders[number]), number))
        error = raised(lambda: order_at(*given, len(orders)))
        self.assertEqual((error.__class__, error.given), (NoNumber, len(orders)))

    def test_against_the_words(self):
        for form in RESTING:
            for filling, edit in naive.asked(form)[::9]:
                self.check(form, filling, edit)

    def test_all_orders_of_one_beginning(self):
        for given in (QQ, (P, (0, 0), (0, 1)), (C, (0, 0, 0), (1, 1)), (TWINS, (0, 0), (0, 1)), (V, (0, 1), (0, 1))):
            found = naive.reach(given[0], [given[1:]])
            orders = naive.whole_orders(found, naive.begin(*given))
            self.assertEqual([order_at(*given, number) for number in range(many_orders(*given))], orders)
            self.assertEqual([order_number(*given, order) for order in orders], list(range(len(orders))))

    def test_as_written(self):
        self.assertEqual([order_at(*QQ, number) for number in range(3)], [(0, 1, 2), (0, 2, 1), (1, 0, 2)])
        self.assertEqual(shortest_order(P, (0, 0), (0, 1)), (0, 1))
        self.assertEqual(longest_order(V, (0, 1), (0, 1)), (0, 1, 0, 1))
        self.assertEqual(many_orders(U, (0, 0), (0, 1)), 1)
        self.assertEqual(longest_order(U, (0, 0), (0, 1)), (0, 1))

    def test_edits_that_change_nothing_and_forms_without_links(self):
        for given in ((T, (0, 1), (0, 0)), (LONE, (0,), (0, 5)), (S, (1, 2), (1, 0)), (T, (0, 1), (1, 1))):
            self.assertEqual([shortest_order(*given), longest_order(*given), order_at(*given, 0)], [(), (), ()])
            self.assertEqual([many_orders(*given), order_number(*given, ())], [1, 0])
            self.assertEqual(raised(lambda: order_at(*given, 1)).given, 1)
            self.assertEqual(raised(lambda: order_number(*given, (0,))).number, 0)

    def test_very_many_orders(self):
        for given in VERY_MANY:
            found = naive.reach(given[0], [given[1:]])
            start = naive.begin(*given)
            many = many_orders(*given)
            self.assertTrue(same(many, counted(found, start)))
            self.assertGreater(many, 10 ** 13)
            numbers = [0, 1, 2] + list(range(3, many, many // 40)) + [many - 2, many - 1]
            orders = [order_at(*given, number) for number in numbers]
            self.assertEqual(orders, sorted(set(orders)))
            for number, order in zip(numbers, orders):
                self.assertTrue(same(order_number(*given, order), number))
                self.assertIsNotNone(naive.whole_end(*given, order))
            self.assertEqual(raised(lambda: order_at(*given, many)).given, many)
            self.check_longest(given, found, start)

    def check_longest(self, given, found, start):
        """Check each link: the rest is as long as can be, and with a lesser link it would not be."""
        heights = naive.heights(found)
        order = longest_order(*given)
        self.assertEqual(len(order), heights[start])
        for place, link in enumerate(order):
            far = [other for other, step in found[start].items() if heights[step] == len(order) - place - 1]
            self.assertEqual(link, min(far))
            start = found[start][link]
        self.assertEqual(start[2], ())

    def test_great_forms(self):
        for filling, edit in naive.asked(RESTING_3000)[::29]:
            given = (RESTING_3000, filling, edit)
            found = naive.reach(RESTING_3000, [(filling, edit)])
            start = naive.begin(*given)
            many = many_orders(*given)
            self.assertEqual(many, counted(found, start))
            for number in (0, many // 3, many - 1):
                order = order_at(*given, number)
                self.assertEqual(order_number(*given, order), number)
                self.assertEqual(naive.last(RESTING_3000, start, order)[2], ())
            self.check_longest(given, found, start)


class EndlessTest(unittest.TestCase):
    def test_against_the_words(self):
        ended = 0
        for form in TURNING:
            for filling, edit in naive.asked(form)[::5]:
                found = naive.reach(form, [(filling, edit)])
                start = naive.begin(form, filling, edit)
                over = [moment for moment in found if not moment[2]]
                self.assertTrue(same(shortest_order(form, filling, edit), naive.shortest(found, start, over)))
                if start in naive.endless_moments(found):
                    self.check((form, filling, edit), naive.endless_orders(found, start))
                    ended += 1
                elif counted(found, start) < 1000:
                    CountingTest.check_orders(self, (form, filling, edit), naive.whole_orders(found, start))
        self.assertGreater(ended, 100)

    def check(self, given, orders):
        for call in (lambda: longest_order(*given), lambda: many_orders(*given), lambda: order_at(*given, 0),
                     lambda: order_at(*given, None), lambda: order_number(*given, ()),
                     lambda: order_number(*given, [9])):
            error = raised(call)
            self.assertIs(error.__class__, Endless)
            self.assertTrue(same((error.order, error.ring), orders))

    def test_as_written(self):
        self.check(TT, ((), (1, 0, 1, 0)))
        self.assertIs(shortest_order(*TT), None)
        # Behind (2,) links 0 and 1 are pending, and not link 2; that doesn't come again.
        self.check((WHIRL, (0, 0), (0, 1)), ((2, 0), (1, 0, 1, 2, 0)))
        self.assertEqual(shortest_order(WHIRL, (0, 0), (0, 1)), (0, 2, 1))

    def test_other_beginnings_of_the_form_make_no_difference(self):
        self.assertEqual(many_orders(T, (0, 0), (1, 0)), 1)
        self.assertEqual(many_orders(T, (0, 1), (0, 0)), 1)
        self.assertEqual(longest_order(T, (1, 1), (0, 0)), (0,))

    def test_great_forms(self):
        for filling, edit in naive.asked(TURNING_3000)[::23]:
            found = naive.reach(TURNING_3000, [(filling, edit)])
            start = naive.begin(TURNING_3000, filling, edit)
            if start in naive.endless_moments(found):
                self.check((TURNING_3000, filling, edit), naive.endless_orders(found, start))


class WrongTest(unittest.TestCase):
    def test_what_is_no_filling_or_no_edit(self):
        for call in (shortest_order, longest_order, many_orders):
            checks.check_beginning(self, call)
        for call in (order_at, order_number):
            for value in (0, None, ()):
                checks.check_beginning(self, lambda *given: call(*given, value))

    def test_what_is_no_number(self):
        for given, many in ((QQ, 3), ((P, (0, 0), (0, 1)), 2), ((S, (0, 0), (0, 1)), 1), ((LONE, (0,), (0, 0)), 1)):
            for value in ANY_VALUES + [many, many + 1, -many, (0, 1, 2)]:
                if is_among(value, range(many)):
                    self.assertIs(order_at(*given, value).__class__, tuple)
                else:
                    error = raised(lambda: order_at(*given, value))
                    self.assertIs(error.__class__, NoNumber)
                    self.assertIs(error.given, value)

    def test_what_is_no_order(self):
        for value in ANY_VALUES + [[0, 1, 2], {"a": 0}, "012"]:
            if value.__class__ is not tuple:
                self.check_order(QQ, value, None)

    def check_order(self, given, value, number):
        error = raised(lambda: order_number(*given, value))
        self.assertIs(error.__class__, BadOrder)
        self.assertTrue(same(error.number, number))

    def test_items_that_are_not_pending(self):
        for value in ANY_VALUES + [[0], (0,), 1.0]:
            if not is_among(value, (0, 1)):
                self.check_order(QQ, (value,), 0)
                self.check_order(QQ, (value, None, 0), 0)
            if not is_among(value, (1, 2)):
                self.check_order(QQ, (0, value), 1)
            if not is_among(value, (2,)):
                self.check_order(QQ, (0, 1, value, 9), 2)
        for order, place in (((0, 0), 1), ((1, 2), 1), ((1, 1), 1), ((0, 1, 2, 0), 3), ((0, 1, 2, None), 3), ((2,), 0),
                             ((False, 1, 2), 0), ((0, True, 2), 1), ((-1,), 0), ((0, 1, -1), 2)):
            self.check_order(QQ, order, place)

    def test_orders_that_stop_short_or_go_on(self):
        for order in ((), (0,), (1,), (0, 1), (0, 2), (1, 0)):
            self.check_order(QQ, order, len(order))
        for order in ((0, 1, 2), (0, 2, 1), (1, 0, 2)):
            for more in (0, 1, 2, None, True, GREAT, (), []):
                self.check_order(QQ, order + (more,), 3)
            self.check_order(QQ, order + (0,) * 3000, 3)
            self.check_order(QQ, order * 1001, 3)

    def test_the_order_of_the_errors(self):
        for call in (order_at, order_number):
            for value in (None, [0], (9,), VERY_GREAT):
                self.assertIs(raised(lambda: call(T, [0, 0], [1, 1], value)).__class__, BadFilling)
                self.assertIs(raised(lambda: call(T, (0, 0), [1, 1], value)).__class__, BadEdit)
                with mock.patch("echofields.reaches.MAX_MOMENTS", 3):
                    self.assertIs(raised(lambda: call(*TT, value)).__class__, TooManyMoments)
                    self.assertIs(raised(lambda: call(*QQ, value)).__class__, TooManyMoments)
                self.assertIs(raised(lambda: call(*TT, value)).__class__, Endless)
                self.assertIs(raised(lambda: call(*QQ, value)).__class__, NoNumber if call is order_at else BadOrder)

    def test_the_limit(self):
        for form in (S, P, T, Q, C, V, WHIRL):
            for given in naive.asked(form)[::3]:
                calls = (lambda: shortest_order(form, *given), lambda: longest_order(form, *given),
                         lambda: many_orders(form, *given), lambda: order_at(form, *given, 0),
                         lambda: order_number(form, *given, ()))
                for call in calls:
                    checks.check_limit_at(self, call, form, given)

    def test_one_beginning_of_a_great_form(self):
        for form in (JUST_3001, CALM_3000, FULL):
            for filling, edit in naive.asked(form)[::41]:
                found = naive.reach(form, [(filling, edit)])
                over = [moment for moment in found if not moment[2]]
                start = naive.begin(form, filling, edit)
                self.assertEqual(shortest_order(form, filling, edit), naive.shortest(found, start, over))

    def test_nothing_is_changed(self):
        values = [[0, 1, 2], ([0], 1), {"a": [0]}, (0, [1])]
        before = duplicate(values)
        for value in values:
            for call in (lambda: order_at(*QQ, value), lambda: order_number(*QQ, value),
                         lambda: shortest_order(Q, value, value), lambda: many_orders(Q, (0, 0, 0), value)):
                self.assertIsNotNone(raised(call))
        self.assertTrue(same(values, before))


if __name__ == "__main__":
    unittest.main()
