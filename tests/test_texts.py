"""[A9]: the texts of forms and fillings."""

import re
import unittest

from echofields.errors import BadText
from echofields.forms import form_error
from echofields.texts import filling_text, form_text, link_text, parse_filling, parse_form, read_link, read_numbers
from tests import naive
from tests.samples import (
    ANY_VALUES, C, EMPTY_TABLE, FORMS, FULL, JUST_3001, LONE, NO_LINKS, P, RESTING_3000, S, T, duplicate, raised, same,
)

NUMBERS = re.compile(r"[0-9](,[0-9])*")
LINK = re.compile(r"([0-9])>([0-9]) ([0-9]):([0-9-](?:,[0-9-])*)")
RANDOM = naive.random_forms(2, 100, most=400)
# The signs that texts have, signs that look like them, and signs that Python takes for digits or blanks.
SIGNS = "0123456789,>: /-+_.abA\n\t\r\0\u00b2\u0663\uff11\u2460\u00a0\u2212\uff0c"


def naive_numbers(text):
    """Return the integers that stand in a text, None if it is no such text; all integers of forms have one digit."""
    return tuple(map(int, text.split(","))) if NUMBERS.fullmatch(text) else None


def naive_form(text):
    sizes, *links = text.split(" / ")
    found = [LINK.fullmatch(link) for link in links]
    if naive_numbers(sizes) is None or None in found:
        return None
    rows = []
    for match in found:
        source, target, guard, table = match.groups()
        items = tuple(None if item == "-" else int(item) for item in table.split(","))
        rows.append((int(source), int(target), items, int(guard)))
    form = (naive_numbers(sizes), tuple(rows))
    return form if form_error(form) is None else None


def naive_filling(form, text):
    numbers = naive_numbers(text)
    return numbers if numbers is not None and naive.is_filling(form, numbers) else None


def edited(text):
    """Return all texts with a sign put in, left out, replaced, doubled or moved."""
    found = []
    for place in range(len(text) + 1):
        for sign in SIGNS:
            found.extend([text[:place] + sign + text[place:], text[:place] + sign + text[place + 1:]])
        found.extend([text[:place] + text[place + 1:], text[:place], text[place:], text[:place] + "00" + text[place:]])
    found.extend([text + text, text.upper(), text.strip(), text + " / ", " / " + text, " " + text + " ", text + ","])
    return found


class TextTest(unittest.TestCase):
    def check_form(self, value):
        form = naive_form(value) if isinstance(value, str) else None
        if form is None:
            error = raised(lambda: parse_form(value))
            self.assertIs(error.__class__, BadText)
            self.assertIs(error.given, value)
        else:
            self.assertTrue(same(parse_form(value), form), value)
            self.assertEqual(form_text(form), value)

    def check_filling(self, form, value):
        filling = naive_filling(form, value) if isinstance(value, str) else None
        if filling is None:
            error = raised(lambda: parse_filling(form, value))
            self.assertIs(error.__class__, BadText)
            self.assertIs(error.given, value)
        else:
            self.assertTrue(same(parse_filling(form, value), filling), value)
            self.assertEqual(filling_text(filling), value)

    def test_texts_as_written(self):
        self.assertEqual(form_text(T), "2,2 / 0>1 0:1,0 / 1>0 0:0,1")
        self.assertEqual(form_text(S), "2,3 / 0>1 1:-,2")
        self.assertEqual(form_text(LONE), "6")
        self.assertEqual(form_text(NO_LINKS), "2,3,6")
        self.assertEqual(form_text(EMPTY_TABLE), "3,2 / 0>1 3:-,-,-")
        self.assertEqual(
            form_text(FULL),
            "2,3,3,2 / 0>1 0:-,2 / 1>2 1:0,1,2 / 2>3 2:-,-,1 / 3>0 3:1,0 / 3>0 3:1,0 / 0>2 1:1,-",
        )
        self.assertEqual([filling_text(row) for row in ((5,), (0, 2), (1, 0, 0, 2))], ["5", "0,2", "1,0,0,2"])

    def test_what_is_parsed_back(self):
        for form in FORMS + RANDOM + [RESTING_3000, JUST_3001]:
            self.assertTrue(same(parse_form(form_text(form)), form))
            for filling in naive.all_fillings(form):
                self.assertTrue(same(parse_filling(form, filling_text(filling)), filling))

    def test_texts_tell_forms_apart(self):
        forms = set(FORMS + RANDOM)
        self.assertEqual(len({form_text(form) for form in forms}), len(forms))

    def test_edited_texts_of_forms(self):
        for form in (S, T, C, P, LONE, EMPTY_TABLE, NO_LINKS, FULL):
            for value in edited(form_text(form)):
                self.check_form(value)

    def test_edited_texts_of_fillings(self):
        for form in FORMS:
            for filling in naive.all_fillings(form)[::5]:
                for value in edited(filling_text(filling)):
                    self.check_filling(form, value)

    def test_zeros_and_signs_ahead(self):
        wrong = [
            "02,3 / 0>1 1:-,2", "2,03 / 0>1 1:-,2", "2,3 / 00>1 1:-,2", "2,3 / 0>01 1:-,2", "2,3 / 0>1 01:-,2",
            "2,3 / 0>1 1:-,02", "+2,3 / 0>1 1:-,2", "2,3 / +0>1 1:-,2", "2,3 / 0>1 +1:-,2", "2,3 / 0>1 1:-,+2",
            "2,3 / -0>1 1:-,2", "2,3 / 0>1 1:-,-0", "2,3 / 0>1 1:-,--", "2,3 / 0>1 1:None,2", "2,3 / 0>1 1:,2",
        ]
        for value in wrong:
            self.check_form(value)
            self.assertIs(raised(lambda: parse_form(value)).given, value)
        for value in ("00,1", "0,01", "+0,1", "0,+1", "-0,1", "0,-1", "0,-", "0, 1", "0_0,1", "0,1 ", " 0,1", "0,1\n"):
            self.assertIs(raised(lambda: parse_filling(S, value)).given, value)

    def test_digits_that_are_not_ascii(self):
        for digit in "\u0661\u06f1\u0967\uff11\u00b9\u2460\U0001d7cf":
            value = f"{digit},2"
            self.assertIs(raised(lambda: parse_filling(S, value)).given, value)
            for text in (f"2,{digit} / 0>1 1:-,2", f"2,3 / 0>{digit} 1:-,2", f"2,3 / 0>1 {digit}:-,2",
                         f"2,3 / 0>1 1:-,{digit}"):
                self.assertIs(raised(lambda: parse_form(text)).given, text)

    def test_texts_of_no_form(self):
        wrong = [
            "", " / ", "1", "7", "2,2,2,2,2", "6,6,2", "2,2 / 0>0 0:0,0", "2,2 / 0>2 0:0,0", "2,2 / 2>0 0:0,0",
            "2,2 / 0>1 4:0,0", "2,2 / 0>1 0:0", "2,2 / 0>1 0:0,0,0", "2,2 / 0>1 0:0,2", "2,2 / 0>1 0:", "2,2 / 0>1 0",
            "2,2 / 0>1 :0,0", "2,2 / >1 0:0,0", "2,2 / 0> 0:0,0", "2,2/ 0>1 0:0,0", "2,2 /0>1 0:0,0", "2,2 /  0>1 0:0,0",
            "2,2 / 0>1  0:0,0", "2,2 / 0 >1 0:0,0", "2,2 / 0>1 0: 0,0", "2,2 / 0>1 0:0, 0", "2, 2", "2,,2", ",2,2", "2,2,",
            "2,2 / 0>1 0:0,0 / ", "2,2 / / 0>1 0:0,0", "2,2" + " / 0>1 0:0,0" * 7, "2,2" + " / 0>1 0:0,0" * 700,
            "10,2", "2,2 / 0>1 0:0,10", "2,2 / 10>1 0:0,0", "2" * 10000, "0," * 5000,
        ]
        for value in wrong:
            self.check_form(value)
            self.assertIs(raised(lambda: parse_form(value)).given, value)
        self.assertEqual(len(parse_form("2,2" + " / 0>1 0:0,0" * 6)[1]), 6)

    def test_texts_of_no_filling(self):
        for value in ("", "0", "0,3", "2,0", "0,0,0", "0,", ",0", "0,,0", "0;0", "0 0", "00", "0," * 5000, "10,0", "0,10"):
            self.assertIs(raised(lambda: parse_filling(S, value)).given, value)

    def test_any_values(self):
        for value in ANY_VALUES + [["2,2"], ("2,2",), b"2,2", {"2,2": 0}]:
            self.check_form(value)
            for form in FORMS:
                self.check_filling(form, value)

    def test_integers_up_to_99_are_read(self):
        # No form has them, so parse_form says no all the same.
        for number in range(100):
            self.assertTrue(same(read_numbers(f"{number},0,{number}"), (number, 0, number)))
            link = (number, 99 - number, (None, number), number)
            self.assertTrue(same(read_link(link_text(link)), link))
        for word in ("100", "00", "01", "007", "-1", "+1", "1.", "", " ", "-", "1 ", "\u0661", "1\u0661", "\u06611"):
            self.assertIs(read_numbers(word), None)
            self.assertIs(read_numbers(f"1,{word}"), None)
            for text in (f"{word}>1 0:0,1", f"0>{word} 0:0,1", f"0>1 {word}:0,1"):
                self.assertIs(read_link(text), None)
            if word != "-":
                self.assertIs(read_link(f"0>1 0:0,{word}"), None)

    def test_nothing_is_changed(self):
        values = [["2,2"], [0, [0]], {"a": "2,2"}]
        before = duplicate(values)
        for value in values:
            raised(lambda: parse_form(value))
            raised(lambda: parse_filling(T, value))
        self.assertTrue(same(values, before))


if __name__ == "__main__":
    unittest.main()
