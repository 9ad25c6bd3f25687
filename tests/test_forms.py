"""[A4] and [A6]: what is a form, a filling and an edit, and what is wrong with what is none."""

import unittest

from echofields.forms import fillings, form_error, is_edit, is_filling, is_form, link_error
from tests.samples import (
    ANY_VALUES, C, EMPTY_TABLE, FORMS, FULL, GREAT, LONE, NO_LINKS, S, T, VERY_GREAT,
    duplicate, is_among, naive_fillings, same, spoiled,
)

LINK = (0, 1, (0, None), 0)


def one_of(value, allowed):
    return value.__class__ is int and value in allowed


def naive_link_error(sizes, link):
    """Say by the words of [A4] and [A6] what is wrong with a link."""
    fields = list(range(len(sizes)))
    if not (link.__class__ is tuple and len(link) == 4):
        return "link"
    if not one_of(link[0], fields):
        return "source"
    if not one_of(link[1], [field for field in fields if field != link[0]]):
        return "target"
    if not (link[2].__class__ is tuple and len(link[2]) == sizes[link[0]]):
        return "table"
    if [item for item in link[2] if item is not None and not one_of(item, range(sizes[link[1]]))]:
        return "table"
    if not one_of(link[3], [0, 1, 2, 3]):
        return "guard"
    return None


def are_sizes(sizes):
    if not (sizes.__class__ is tuple and len(sizes) in (1, 2, 3, 4)):
        return False
    if [size for size in sizes if not one_of(size, (2, 3, 4, 5, 6))]:
        return False
    return len(naive_fillings((sizes, ()))) <= 36


def naive_form_error(value):
    if not (value.__class__ is tuple and len(value) == 2):
        return (None, "form")
    if not are_sizes(value[0]):
        return (None, "sizes")
    if not (value[1].__class__ is tuple and len(value[1]) <= 6):
        return (None, "links")
    words = [naive_link_error(value[0], link) for link in value[1]]
    wrong = [(index, word) for index, word in enumerate(words) if word]
    return wrong[0] if wrong else None


class FormErrorTest(unittest.TestCase):
    def check(self, value, error):
        self.assertTrue(same(form_error(value), error), f"{form_error(value)} in the place of {error}")
        self.assertIs(is_form(value), error is None)

    def check_sizes(self, sizes, right):
        self.check((sizes, ()), None if right else (None, "sizes"))

    def check_links(self, sizes, links, error):
        self.check((sizes, links), error)

    def test_forms(self):
        for form in FORMS:
            self.check(form, None)

    def test_what_is_no_pair(self):
        for value in ANY_VALUES:
            if not (isinstance(value, tuple) and len(value) == 2):
                self.check(value, (None, "form"))
        for value in (list(S), S + ((),), S[:1], {"sizes": S[0], "links": S[1]}):
            self.check(value, (None, "form"))

    def test_how_many_fields(self):
        for sizes in ((2,), (6,), (2, 2), (2, 2, 2), (2, 2, 2, 2), (6, 6), (2, 3, 6), (3, 3, 2, 2)):
            self.check_sizes(sizes, True)
        for sizes in ((), (2, 2, 2, 2, 2), (2,) * 20000):
            self.check_sizes(sizes, False)

    def test_how_great_a_field(self):
        for size in (2, 3, 4, 5, 6):
            self.check_sizes((size,), True)
            self.check_sizes((2, size), True)
        for size in (1, 0, -1, -2, -6, 7, 36, GREAT, -GREAT, VERY_GREAT):
            self.check_sizes((size,), False)
            self.check_sizes((2, size), False)
            self.check_sizes((size, size), False)

    def test_how_many_fillings(self):
        for sizes in ((6, 6), (4, 3, 3), (3, 4, 3), (6, 3, 2), (2, 3, 2, 3), (5, 6), (4, 4, 2), (2, 2, 2, 4)):
            self.check_sizes(sizes, True)
        for sizes in ((2, 4, 5), (3, 3, 5), (6, 6, 2), (2, 6, 6), (4, 5, 2), (2, 2, 2, 5), (6, 6, 6, 6), (3, 3, 3, 2)):
            self.check_sizes(sizes, False)

    def test_sizes_of_other_kinds(self):
        for value in ANY_VALUES + [[2, 2], [2], (2, True), (True,), (2, False), (2, "2"), ("2",), ((2,), 2), (2, None)]:
            self.check_sizes(value, False)
            self.check((value, None), (None, "sizes"))

    def test_how_many_links(self):
        for many in range(7):
            self.check_links((2, 2), (LINK,) * many, None)
        for many in (7, 8, 20000):
            self.check_links((2, 2), (LINK,) * many, (None, "links"))
            self.check_links((2, 2), (None,) * many, (None, "links"))

    def test_links_of_other_kinds(self):
        for value in (None, True, 0, GREAT, "", "links", [], [LINK], {}, {"0": LINK}):
            self.check_links((2, 2), value, (None, "links"))

    def test_what_is_no_link(self):
        for value in ANY_VALUES + [list(LINK), LINK[:3], LINK[1:], LINK + (0,), (LINK,), {"0": LINK}]:
            if not (isinstance(value, tuple) and len(value) == 4):
                self.check_links((2, 2), (value,), (0, "link"))
                self.check_links((2, 2), (LINK, value, LINK), (1, "link"))

    def test_sources(self):
        for value in (2, 3, -1, -2, GREAT, VERY_GREAT, True, False, None, "0", (0,), [0], {}):
            self.check_links((2, 2), ((value, 1, (0, 0), 0),), (0, "source"))
            self.check_links((2, 2), ((value, 0, (0, 0), 0),), (0, "source"))

    def test_targets(self):
        for value in (0, 2, -1, -2, GREAT, VERY_GREAT, True, False, None, "1", (1,), [1], {}):
            self.check_links((2, 2), ((0, value, (0, 0), 0),), (0, "target"))
        for value in (1, False, True, None):
            self.check_links((2, 2), ((1, value, (0, 0), 0),), (0, "target"))
        for target in (0, 1, GREAT):
            self.check((((2,), ((0, target, (0, 0), 0),))), (0, "target"))

    def test_tables_have_an_item_for_each_value_of_the_source(self):
        for many in range(2, 7):
            for table in ((0,) * many, (None,) * many, (1,) + (None,) * (many - 1)):
                self.check_links((many, 2), ((0, 1, table, 0),), None)
                self.check_links((many, 2), ((0, 1, table[1:], 0),), (0, "table"))
                self.check_links((many, 2), ((0, 1, table + (0,), 0),), (0, "table"))

    def test_tables_have_values_of_the_target(self):
        for size in range(2, 7):
            for item in range(size):
                self.check_links((2, size), ((0, 1, (None, item), 0),), None)
                self.check_links((size, 2), ((1, 0, (item, None), 0),), None)
            for item in (size, -1, GREAT, VERY_GREAT, True, False, "0", "", (), (0,), [], [None], {}):
                self.check_links((2, size), ((0, 1, (None, item), 0),), (0, "table"))
                self.check_links((2, size), ((0, 1, (item, 0), 0),), (0, "table"))

    def test_tables_of_other_kinds(self):
        for value in ANY_VALUES + [[0, 0], [None, None], {"0": 0, "1": 0}, "00"]:
            if not is_among(value, [(0, 0), (0, 1)]):
                self.check_links((2, 2), ((0, 1, value, 0),), (0, "table"))

    def test_guards(self):
        for guard in (0, 1, 2, 3):
            self.check_links((2, 2), ((0, 1, (0, 1), guard),), None)
        for guard in ANY_VALUES:
            if not is_among(guard, [0, 1, 2, 3]):
                self.check_links((2, 2), ((0, 1, (0, 1), guard),), (0, "guard"))

    def test_links_with_equal_tuples_and_to_and_fro(self):
        self.check_links((2, 2), (LINK, LINK, (1, 0, (0, 1), 3), LINK), None)

    def test_which_error_comes_first(self):
        worse = [(None, 9, 9, 9), (0, 9, 9, 9), (0, 1, 9, 9), (0, 1, (0, 0), 9)]
        words = ["source", "target", "table", "guard"]
        for link, word in zip(worse, words):
            self.check_links((2, 2), (LINK, link), (1, word))
        self.check((None, None, None), (None, "form"))
        self.check((None, None), (None, "sizes"))
        self.check(((2, 7), (None,) * 7), (None, "sizes"))
        self.check(((2, 2), (None,) * 7), (None, "links"))
        self.check_links((2, 2), (LINK, worse[3], None, worse[0]), (1, "guard"))
        self.check_links((2, 2), (LINK, None, worse[0]), (1, "link"))
        self.check_links((2, 2), (LINK,) * 5 + (worse[2],), (5, "table"))

    def test_all_kinds_of_values_at_every_place(self):
        for form in (LONE, EMPTY_TABLE, S, T, C, FULL):
            for value in spoiled(form):
                self.check(value, naive_form_error(value))

    def test_nothing_is_changed(self):
        for value in ANY_VALUES + [[[2, 2], [LINK]], ([2, 2], []), ((2, 2), [[0]]), ((2, 2), ([0, [1], {}, 0],))]:
            before = duplicate(value)
            form_error(value)
            is_form(value)
            self.assertTrue(same(value, before))

    def test_equal_values_answer_alike(self):
        for form in FORMS:
            self.assertIs(is_form(duplicate(form)), True)
        wrong = ((2, 2), ((0, 1, (1, 2), 0),))
        self.assertEqual(form_error(wrong), form_error(duplicate(wrong)))

    def test_link_error_tells_the_word(self):
        for link in spoiled(C[1][1]):
            self.assertEqual(link_error(C[0], link), naive_link_error(C[0], link))


class FillingsTest(unittest.TestCase):
    def test_fillings(self):
        for form in FORMS:
            found = fillings(form)
            self.assertTrue(same(found, tuple(naive_fillings(form))))
            self.assertTrue(all(found[k] < found[k + 1] for k in range(len(found) - 1)))

    def test_fillings_as_written(self):
        self.assertEqual(fillings(LONE), ((0,), (1,), (2,), (3,), (4,), (5,)))
        self.assertEqual(fillings(((2, 2), ())), ((0, 0), (0, 1), (1, 0), (1, 1)))
        self.assertEqual(len(fillings(NO_LINKS)), 36)
        self.assertEqual(len(fillings(FULL)), 36)
        self.assertEqual(fillings(FULL)[-1], (1, 2, 2, 1))

    def test_is_filling(self):
        for form in FORMS:
            rows = naive_fillings(form)
            for filling in rows:
                self.assertIs(is_filling(form, filling), True)
            for value in ANY_VALUES + spoiled(rows[0]) + spoiled(rows[-1]) + spoiled(tuple(rows[:2])):
                self.assertIs(is_filling(form, value), is_among(value, rows))

    def test_what_is_no_filling(self):
        wrong = [
            (True, 0), (0, False), (False, False), [0, 0], [0, 1], {"0": 0, "1": 0}, (0,), (0, 0, 0), (), None, "00",
            (2, 0), (0, 3), (-1, 0), (0, -1), (None, 0), ("0", 0), ((0,), 0), ([0], 0), (GREAT, 0), (0, VERY_GREAT),
        ]
        for value in wrong:
            self.assertIs(is_filling(S, value), False)

    def test_is_edit(self):
        for form in FORMS:
            edits = [(field, value) for field, size in enumerate(form[0]) for value in range(size)]
            for edit in edits:
                self.assertIs(is_edit(form, edit), True)
            for value in ANY_VALUES + spoiled(edits[0]) + spoiled(edits[-1]) + spoiled(tuple(edits[:2])):
                self.assertIs(is_edit(form, value), is_among(value, edits))

    def test_what_is_no_edit(self):
        wrong = [
            (2, 0), (0, 2), (1, 3), (-1, 0), (0, -1), (True, 0), (0, True), (False, 0), (0, False), [0, 1], (0,),
            (0, 0, 0), (), None, 0, "01", {"field": 0, "value": 0}, ("0", 0), (0, "0"), (None, 0), (0, None),
            ((0,), 0), (0, (0,)), ([0], 0), (GREAT, 0), (0, GREAT), (VERY_GREAT, VERY_GREAT), ({}, 0),
        ]
        for value in wrong:
            self.assertIs(is_edit(S, value), False)
        self.assertIs(is_edit(S, (1, 2)), True)
        self.assertIs(is_edit(LONE, (1, 0)), False)

    def test_nothing_is_changed(self):
        for value in ([0, 0], [0, [1]], {"a": [0]}, ([0], 0), (0, {"a": 1})):
            before = duplicate(value)
            is_filling(S, value)
            is_edit(S, value)
            self.assertTrue(same(value, before))


if __name__ == "__main__":
    unittest.main()
