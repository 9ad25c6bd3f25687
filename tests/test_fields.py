"""[A10]: Fields objects."""

import unittest

from echofields.errors import BadBatch, BadEdit, BadFilling, BadForm, Endless, FieldError, NoField, Rejected
from echofields.fields import Fields
from echofields.forms import form_error
from echofields.texts import filling_text
from tests import naive
from tests.samples import (
    ANY_VALUES, C, EMPTY_TABLE, FORMS, FULL, GREAT, LONE, NO_LINKS, P, Q, S, T, TURNING_3000, TWINS, U, V, VERY_GREAT,
    duplicate, is_among, raised, same, spoiled,
)

# Field 0 sets field 1, which goes round with field 2 for ever; field 3 stands by.
ROUND = ((2, 2, 2, 2), ((0, 1, (0, 1), 0), (1, 2, (1, 0), 0), (2, 1, (0, 1), 0)))
RANDOM = naive.random_forms(3, 60, most=400)


def naive_run(form, filling, edit):
    """Return the order of the run in which the least link fires and its end, or the order and the ring of Endless."""
    moments = [naive.begin(form, filling, edit)]
    order = []
    while moments[-1][2] and moments.index(moments[-1]) == len(moments) - 1:
        order.append(moments[-1][2][0])
        moments.append(naive.fire(form, moments[-1], order[-1]))
    if not moments[-1][2]:
        return tuple(order), moments[-1][1]
    again = moments.index(moments[-1])
    return Endless, tuple(order[:again]), tuple(order[again:])


def state(fields):
    return (fields.form, fields.filling, fields.last)


def put_item(fields, field, value):
    fields[field] = value


def put_filling(fields, filling):
    fields.filling = filling


def add(fields, edit):
    fields += edit
    return fields


class CreatedTest(unittest.TestCase):
    def test_form_filling_and_last(self):
        for form in FORMS:
            for filling in naive.all_fillings(form):
                fields = Fields(form, filling)
                self.assertTrue(same(state(fields), (form, filling, ())))

    def test_what_is_no_form(self):
        for value in ANY_VALUES + spoiled(S):
            error = form_error(value)
            if error is not None:
                for filling in ((0, 0), None):
                    found = raised(lambda: Fields(value, filling))
                    self.assertIs(found.__class__, BadForm)
                    self.assertTrue(same(found.error, error))

    def test_what_is_no_filling(self):
        for value in ANY_VALUES + spoiled((1, 2)):
            if not naive.is_filling(S, value):
                error = raised(lambda: Fields(S, value))
                self.assertIs(error.__class__, BadFilling)
                self.assertIs(error.given, value)

    def test_properties_that_can_only_be_read(self):
        fields = Fields(S, (0, 0))
        for name in ("form", "last"):
            with self.assertRaises(AttributeError):
                setattr(fields, name, S)
        self.assertEqual(state(fields), (S, (0, 0), ()))

    def test_methods_stand_in_the_class(self):
        for name in ("form", "filling", "last", "refill", "copy", "__call__", "__getitem__", "__setitem__", "__iadd__",
                     "__len__", "__contains__", "__bool__", "__str__", "__eq__", "__init__"):
            self.assertIn(name, vars(Fields))


class AskedTest(unittest.TestCase):
    def test_items(self):
        for form in FORMS:
            for filling in naive.all_fillings(form):
                fields = Fields(form, filling)
                self.assertTrue(same([fields[field] for field in range(len(filling))], list(filling)))
                self.assertEqual(len(fields), len(filling))
                self.assertEqual(str(fields), filling_text(filling))
                self.assertIs(bool(fields), naive.is_calm(form, filling))

    def test_what_is_no_field(self):
        for form in (S, LONE, FULL):
            fields = Fields(form, naive.all_fillings(form)[0])
            for value in ANY_VALUES + [slice(0, 1)]:
                if not is_among(value, range(len(form[0]))):
                    error = raised(lambda: fields[value])
                    self.assertIs(error.__class__, NoField)
                    self.assertIs(error.given, value)

    def test_what_is_in_it(self):
        for form in (S, T, LONE, FULL):
            for filling in naive.all_fillings(form):
                fields = Fields(form, filling)
                pairs = list(enumerate(filling))
                for pair in naive.all_edits(form):
                    self.assertIs(pair in fields, pair in pairs)
                    self.assertIs(list(pair) in fields, False)
        for value in ANY_VALUES + spoiled((0, 1)) + spoiled((1, 2)):
            self.assertIs(value in Fields(S, (1, 2)), is_among(value, [(0, 1), (1, 2)]))
            self.assertIs(value not in Fields(S, (1, 2)), not is_among(value, [(0, 1), (1, 2)]))

    def test_truths_are_not_in_it(self):
        for value in ((True, 1), (1, True), (False, 1), (0, True), (0, 1, 0), (0,), 0, 1):
            self.assertIs(value in Fields(T, (1, 1)), False)

    def test_a_loop_raises_a_type_error(self):
        fields = Fields(T, (0, 1))
        for call in (iter, list, tuple, sorted, lambda x: [item for item in x], lambda x: [*x], enumerate, dict):
            with self.assertRaises(TypeError):
                call(fields)
        with self.assertRaises(TypeError):
            one, other = fields

    def test_equal_objects(self):
        objects = [(form, row) for form in (S, T, U, V, LONE, NO_LINKS) for row in naive.all_fillings(form)[:6]]
        for one in objects:
            for other in objects:
                self.assertIs(Fields(*one) == Fields(*other), one == other)
                self.assertIs(Fields(*one) != Fields(*other), one != other)

    def test_what_was_done_before_makes_no_difference(self):
        one, other = Fields(S, (1, 2)), Fields(S, (0, 0))
        other[0] = 1
        self.assertEqual((one.last, other.last), ((), (0,)))
        self.assertIs(one == other, True)
        self.assertIs(one != other, False)

    def test_it_is_equal_to_nothing_else(self):
        fields = Fields(T, (0, 1))
        for value in ANY_VALUES + [T, (0, 1), (T, (0, 1)), "0,1", [(0, 1)], Fields, object()]:
            for equal, unequal in ((fields == value, fields != value), (value == fields, value != fields)):
                self.assertIs(equal, False)
                self.assertIs(unequal, True)

    def test_asking_changes_nothing(self):
        fields = Fields(C, (0, 0, 0))
        fields[0] = 1
        before = state(fields)
        for call in (str, bool, len, lambda x: x[0], lambda x: (0, 1) in x, lambda x: x == x, lambda x: x.copy(),
                     lambda x: x(()), lambda x: raised(lambda: x[9]), lambda x: x.last):
            call(fields)
            self.assertEqual(state(fields), before)


class RefillTest(unittest.TestCase):
    def test_the_filling_is_replaced_and_nothing_fires(self):
        for refill in (Fields.refill, put_filling):
            for form in FORMS:
                for filling in naive.all_fillings(form):
                    fields = Fields(form, naive.all_fillings(form)[0])
                    self.assertIs(refill(fields, filling), None)
                    self.assertTrue(same(state(fields), (form, filling, ())))

    def test_last_is_empty_then_also_for_an_equal_one(self):
        for refill in (Fields.refill, put_filling):
            for filling in ((1, 2), (0, 0)):
                fields = Fields(S, (0, 0))
                fields[0] = 1
                self.assertEqual(fields.last, (0,))
                refill(fields, filling)
                self.assertEqual(state(fields), (S, filling, ()))

    def test_what_is_no_filling(self):
        for refill in (Fields.refill, put_filling):
            fields = Fields(S, (0, 0))
            fields[0] = 1
            for value in ANY_VALUES + spoiled((1, 2)):
                if not naive.is_filling(S, value):
                    error = raised(lambda: refill(fields, value))
                    self.assertIs(error.__class__, BadFilling)
                    self.assertIs(error.given, value)
                    self.assertEqual(state(fields), (S, (1, 2), (0,)))


class EditTest(unittest.TestCase):
    def check(self, form, filling, edit):
        for change in (add, lambda fields, edit: put_item(fields, *edit)):
            fields = Fields(form, filling)
            fields(((0, filling[0]),))
            expected = naive_run(form, filling, edit)
            if expected[0] is Endless:
                error = raised(lambda: change(fields, edit))
                self.assertIs(error.__class__, Endless)
                self.assertTrue(same((error.order, error.ring), expected[1:]))
                self.assertTrue(same(state(fields), (form, filling, ())))
            else:
                change(fields, edit)
                self.assertTrue(same((fields.last, fields.filling), expected))
                self.assertIs(fields.form, form)

    def test_against_the_words(self):
        for form in FORMS + [ROUND] + RANDOM:
            for filling, edit in naive.asked(form):
                self.check(form, filling, edit)

    def test_great_forms(self):
        for filling, edit in naive.asked(TURNING_3000)[::7]:
            self.check(TURNING_3000, filling, edit)

    def test_edits_as_written(self):
        fields = Fields(P, (0, 0))
        fields[0] = 1
        self.assertEqual(state(fields), (P, (1, 1), (0, 1)))
        fields = Fields(Q, (0, 0, 0))
        fields[0] = 1
        self.assertEqual(state(fields), (Q, (1, 1, 0), (0, 1, 2)))
        fields = Fields(TWINS, (0, 0))
        fields[0] = 1
        self.assertEqual(state(fields), (TWINS, (1, 1), (0, 1)))

    def test_edits_that_change_nothing(self):
        fields = Fields(S, (0, 0))
        fields[0] = 1
        fields[1] = 2
        self.assertEqual(state(fields), (S, (1, 2), ()))
        fields = Fields(T, (0, 1))
        fields += (0, 0)
        self.assertEqual(state(fields), (T, (0, 1), ()))

    def test_endless_as_written(self):
        fields = Fields(T, (0, 1))
        error = raised(lambda: put_item(fields, 0, 1))
        self.assertEqual((error.order, error.ring), ((), (0, 1, 0, 1)))
        self.assertEqual(state(fields), (T, (0, 1), ()))
        fields = Fields(T, (0, 0))
        error = raised(lambda: add(fields, (1, 1)))
        self.assertEqual((error.order, error.ring), ((), (1, 0, 1, 0)))
        self.assertEqual(state(fields), (T, (0, 0), ()))

    def test_endless_with_an_order_ahead(self):
        fields = Fields(ROUND, (0, 0, 1, 0))
        fields[3] = 1
        error = raised(lambda: put_item(fields, 0, 1))
        self.assertEqual((error.order, error.ring), ((0,), (1, 2, 1, 2)))
        self.assertEqual(state(fields), (ROUND, (0, 0, 1, 1), ()))
        again = naive.last(ROUND, naive.begin(ROUND, (0, 0, 1, 1), (0, 1)), error.order)
        self.assertEqual(naive.last(ROUND, again, error.ring), again)

    def test_endless_leaves_last_as_it_was(self):
        form = ((2, 2, 2), T[1] + ((2, 1, (None, 1), 1),))
        fields = Fields(form, (0, 1, 0))
        fields[2] = 1
        before = state(fields)
        self.assertEqual(before, (form, (0, 1, 1), (2,)))
        for change in (lambda: put_item(fields, 0, 1), lambda: add(fields, (0, 1)), lambda: fields(((0, 1),))):
            self.assertIsNotNone(raised(change))
            self.assertEqual(state(fields), before)

    def test_plus_stays_the_same_object(self):
        fields = same_one = Fields(S, (0, 0))
        fields += (0, 1)
        self.assertIs(fields, same_one)
        self.assertEqual(state(same_one), (S, (1, 2), (0,)))

    def test_what_is_no_edit(self):
        fields = Fields(S, (0, 0))
        fields[0] = 1
        for value in ANY_VALUES + spoiled((1, 2)):
            if not naive.is_edit(S, value):
                error = raised(lambda: add(fields, value))
                self.assertIs(error.__class__, BadEdit)
                self.assertIs(error.given, value)
                self.assertEqual(state(fields), (S, (1, 2), (0,)))

    def test_what_is_no_field_or_no_value(self):
        fields = Fields(S, (0, 0))
        fields[0] = 1
        pairs = [(value, 0) for value in ANY_VALUES] + [(1, value) for value in ANY_VALUES]
        for field, value in pairs + [(True, 1), (0, True), (False, False), (0, 2), (1, 3), (2, 0), (-1, 0), (0, -1)]:
            if not naive.is_edit(S, (field, value)):
                error = raised(lambda: put_item(fields, field, value))
                self.assertIs(error.__class__, BadEdit)
                self.assertTrue(same(error.given, (field, value)))
                self.assertIs(error.given[0], field)
                self.assertIs(error.given[1], value)
                self.assertEqual(state(fields), (S, (1, 2), (0,)))

    def test_nothing_that_was_passed_is_changed(self):
        values = [[0, 1], ([0], 1), {"a": [0]}, ([0, 1], (0, 1))]
        before = duplicate(values)
        fields = Fields(S, (0, 0))
        for value in values:
            for call in (lambda: add(fields, value), lambda: put_item(fields, value, value), lambda: fields(value),
                         lambda: fields.refill(value), lambda: fields[value], lambda: Fields(value, value)):
                self.assertIsInstance(raised(call), FieldError)
            self.assertNotIn(value, fields)
        self.assertTrue(same(values, before))


class BatchTest(unittest.TestCase):
    def check(self, form, filling, edits):
        fields = Fields(form, filling)
        fields(((0, filling[0]),))
        orders = []
        behind = filling
        for index, edit in enumerate(edits):
            run = naive_run(form, behind, edit) if naive.is_edit(form, edit) else (Endless,)
            if run[0] is Endless:
                self.check_rejected(fields, edits, index)
                return
            orders.append(run[0])
            behind = run[1]
        self.assertTrue(same(fields(edits), tuple(orders)))
        self.assertTrue(same(state(fields), (form, behind, orders[-1] if orders else ())))

    def check_rejected(self, fields, edits, index):
        before = state(fields)
        error = raised(lambda: fields(edits))
        self.assertIs(error.__class__, Rejected)
        self.assertTrue(same(error.index, index))
        self.assertTrue(same(state(fields), before))

    def test_against_the_words(self):
        for form in FORMS + [ROUND] + RANDOM:
            edits = naive.all_edits(form)
            for place, filling in enumerate(naive.all_fillings(form)):
                for step in (1, 3, 5):
                    row = tuple((edits * 5)[place::step][:place % 7])
                    self.check(form, filling, row)

    def test_no_edit(self):
        fields = Fields(S, (0, 0))
        fields[0] = 1
        self.assertEqual(fields(()), ())
        self.assertEqual(state(fields), (S, (1, 2), (0,)))

    def test_20_edits_and_21(self):
        row = ((0, 1), (0, 0), (1, 0), (1, 0)) * 5
        fields = Fields(S, (0, 0))
        self.assertEqual(fields(row), ((0,), (0,), (), ()) * 5)
        self.assertEqual(state(fields), (S, (0, 0), ()))
        fields[0] = 1
        for value in (row + ((0, 0),), (None,) * 21, ((9, 9),) * 21):
            self.assertIs(raised(lambda: fields(value)).__class__, BadBatch)
            self.assertEqual(state(fields), (S, (1, 2), (0,)))

    def test_what_is_no_batch(self):
        fields = Fields(S, (0, 0))
        fields[0] = 1
        for value in ANY_VALUES + [[(0, 0)], {"a": (0, 0)}, [()]]:
            if value.__class__ is not tuple or len(value) > 20:
                self.assertIs(raised(lambda: fields(value)).__class__, BadBatch)
                self.assertEqual(state(fields), (S, (1, 2), (0,)))

    def test_items_that_are_no_edits(self):
        for value in ANY_VALUES + spoiled((0, 1)):
            for row in ((value,), ((0, 1), value), ((0, 1), (1, 1), value, (0, 0)), (value, None)):
                self.check(S, (0, 0), row)

    def test_edits_that_go_on_for_ever(self):
        self.check(T, (0, 1), ((0, 0), (1, 1), (0, 1), (9, 9)))
        self.check(T, (0, 1), ((0, 0), (9, 9), (0, 1)))
        self.check(ROUND, (0, 0, 1, 0), ((3, 1), (0, 1), None))

    def test_last_is_that_of_the_last_edit(self):
        fields = Fields(C, (0, 0, 0))
        fields[0] = 1
        self.assertEqual(fields(((1, 0), (0, 2))), ((1, 2, 0), (0, 1, 2)))
        self.assertEqual(state(fields), (C, (2, 2, 1), (0, 1, 2)))
        self.assertEqual(fields(((0, 0), (0, 0))), ((0, 1, 2), ()))
        self.assertEqual(state(fields), (C, (0, 0, 0), ()))


class CopyTest(unittest.TestCase):
    def test_copies_have_the_same(self):
        for form in (S, C, LONE):
            fields = Fields(form, naive.all_fillings(form)[0])
            fields[0] = 1
            twin = fields.copy()
            self.assertIsNot(twin, fields)
            self.assertIs(twin.__class__, Fields)
            self.assertTrue(same(state(twin), state(fields)))
            self.assertIs(twin == fields, True)

    def test_copies_go_their_own_way(self):
        fields = Fields(C, (0, 0, 0))
        fields[0] = 1
        twin = fields.copy()
        twin[0] = 2
        self.assertEqual(state(fields), (C, (1, 2, 1), (0, 1, 2)))
        self.assertEqual(state(twin), (C, (2, 2, 1), (0,)))
        fields.filling = (0, 0, 0)
        self.assertEqual(state(twin), (C, (2, 2, 1), (0,)))
        self.assertEqual(state(twin.copy().copy()), state(twin))
        self.assertIs(twin == fields, False)

    def test_objects_do_not_share_anything(self):
        objects = [Fields(EMPTY_TABLE, (0, 0)) for _ in range(3)]
        objects[1][0] = 2
        self.assertEqual([state(one)[1:] for one in objects], [((0, 0), ()), ((2, 0), (0,)), ((0, 0), ())])

    def test_great_numbers(self):
        fields = Fields(S, (0, 0))
        for value in (GREAT, VERY_GREAT):
            self.assertEqual(raised(lambda: fields[value]).__class__, NoField)
            self.assertEqual(raised(lambda: put_item(fields, value, value)).__class__, BadEdit)


if __name__ == "__main__":
    unittest.main()
