"""What the tests of the functions of section B share."""

import itertools
from unittest import mock

from echofields.errors import BadEdit, BadFilling, TooManyMoments
from tests import naive
from tests.samples import (
    ALSO_3001, ANY_VALUES, CALM_3000, FORMS, FULL, JUST_3001, SOME_VALUES, duplicate, is_among, raised, same, spoiled,
)

SMALL = [form for form in FORMS if form is not FULL]
MIXED = SMALL + naive.random_forms(5, 150, most=200) + naive.turning_forms(6, 100, most=150)
# Few moments are reached by these, so that all places of the evidence can be spoiled.
ONE_LINK = ((2, 2), ((0, 1, (None, 1), 1),))
COPIED = ((2, 2), ((0, 1, (0, 1), 1),))
# Link 0 wishes the fields unlike, links 1 and 2 alike: so runs can end, in either way, or go on as long as they like.
WHIRL = ((2, 2), ((0, 1, (1, 0), 0), (1, 0, (0, 1), 0), (0, 1, (0, 1), 0)))
# T with a link that does nothing, so that a ring can have any number of links from 4 on.
IDLING = ((2, 2), ((0, 1, (1, 0), 0), (1, 0, (0, 1), 0), (0, 1, (None, None), 0)))
# Nothing ever changes but for the edits, so each moment has its own filling as its end.
QUIET = ((6, 6), tuple((field, 1 - field, (None,) * 6, 1) for field in (0, 0, 0, 1, 1, 1)))


def check_found(test, find, naive_find, holds, naive_holds):
    """Check what is found, against the words, and that it is evidence, of itself and not of what other forms do."""
    for form in MIXED:
        for calm in (False, True):
            value = find(form, calm=calm)
            test.assertTrue(same(value, naive_find(form, calm)), f"{value} for {form}")
            test.assertIs(holds(form, value, calm=calm), True)
            test.assertIs(holds(form, value, calm=not calm), naive_holds(form, value, not calm))
            test.assertTrue(same(find(form, calm=calm), value))
        test.assertTrue(same(find(form), naive_find(form)))
        test.assertIs(holds(form, find(form)), True)
    values = [find(form) for form in SMALL]
    for form in SMALL:
        for value in values:
            test.assertIs(holds(form, value), naive_holds(form, value))


def check_judged(test, holds, naive_holds, cases, items=SOME_VALUES):
    """Check how variants of evidence are judged, against the words."""
    for form, value, calm in cases:
        before = duplicate(value)
        test.assertIs(holds(form, value, calm=calm), naive_holds(form, value, calm))
        for other in spoiled(value, items) + row_variants(value) + ANY_VALUES:
            test.assertIs(holds(form, other, calm=calm), naive_holds(form, other, calm), other)
        test.assertTrue(same(value, before))


def row_variants(value):
    """Return variants of evidence with rows left out, told twice, exchanged or put elsewhere."""
    rows = value[-1]
    found = []
    for place in range(len(rows)):
        found.append(rows[:place] + rows[place + 1:])
        found.append(rows[:place + 1] + rows[place:])
        found.append(rows[:place] + rows[place:][::-1])
        found.append(rows[place:] + rows[:place])
    return [value[:-1] + (row,) for row in found]


def whirling_order(many, end):
    """Return a whole order of WHIRL from ((0, 0), (0, 1)) with so many links, at least 18, to the end (end, end)."""
    for slow in range(1, 5):
        quick, odd = divmod(many - 3 * slow - 3, 2)
        # In each turn field 0 gets its other value.
        if not odd and (slow + quick + end) % 2 == 1:
            return (2, 0, 1) * slow + (0, 1) * quick + (0, 2, 1)


def quiet_moments(many):
    """Return so many moments of QUIET in ascending order, with all that are reached and what is behind any of them."""
    reached = naive.reach(QUIET, naive.asked(QUIET))
    found = []
    for states in itertools.product("-ps", repeat=6):
        pending, spent = [tuple(link for link in range(6) if states[link] == state) for state in "ps"]
        found.extend((field, filling, pending, spent) for field in (0, 1) for filling in naive.all_fillings(QUIET))
    # Firings leave less pending links, so what stands further ahead here never needs what stands behind.
    found = sorted(found, key=lambda moment: (moment not in reached, len(moment[2])))
    return sorted(found[:many])


def check_limit(test, call):
    """Check that a call raises TooManyMoments where more moments than the limit are reached, and else does not."""
    for form in SMALL + MIXED[-3:]:
        for calm in (False, True):
            many = len(naive.reach(form, naive.asked(form, calm)))
            for limit in {0, many - 1, many, many + 1} - {-1}:
                with mock.patch("echofields.reaches.MAX_MOMENTS", limit):
                    error = raised(lambda: call(form, calm))
                test.assertIs(error.__class__ is TooManyMoments, limit < many)


def check_limit_at(test, call, form, beginning):
    """Check the same for a function of one beginning, which asks for this one alone."""
    many = len(naive.reach(form, [beginning]))
    for limit in (many - 1, many):
        with mock.patch("echofields.reaches.MAX_MOMENTS", limit):
            error = raised(call)
        test.assertIs(error.__class__ is TooManyMoments, limit < many)


def check_great(test, find, holds):
    """Check that 3001 moments are too many, whatever is judged, and that those of calm beginnings count alone."""
    for form in (JUST_3001, ALSO_3001, CALM_3000):
        for value in (None, ("heights", ()), ("ends", ()), ("closed", ()), ("order", (0, 0, 0, 0), (0, 0), ())):
            for call in (lambda: holds(form, value), lambda: find(form), lambda: holds(form, value, calm=False)):
                test.assertIs(raised(call).__class__, TooManyMoments)
        value = find(form, calm=True)
        test.assertIs(holds(form, value, calm=True), True)


def check_beginning(test, call):
    """Check that a function of one beginning refuses what is no filling, then what is no edit, with the very value."""
    for form in FORMS[:4] + [FULL]:
        rows, edits = naive.all_fillings(form), naive.all_edits(form)
        for value in ANY_VALUES + spoiled(rows[-1], SOME_VALUES):
            if not is_among(value, rows):
                for edit in (edits[0], [0, 0], None):
                    error = raised(lambda: call(form, value, edit))
                    test.assertIs(error.__class__, BadFilling)
                    test.assertIs(error.given, value)
        for value in ANY_VALUES + spoiled(edits[-1], SOME_VALUES):
            if not is_among(value, edits):
                error = raised(lambda: call(form, rows[0], value))
                test.assertIs(error.__class__, BadEdit)
                test.assertIs(error.given, value)
    with mock.patch("echofields.reaches.MAX_MOMENTS", 0):
        test.assertIs(raised(lambda: call(FORMS[0], [0, 0], [0, 0])).__class__, BadFilling)
        test.assertIs(raised(lambda: call(FORMS[0], (0, 0), [0, 0])).__class__, BadEdit)
        test.assertIs(raised(lambda: call(FORMS[0], (0, 0), (0, 0))).__class__, TooManyMoments)
