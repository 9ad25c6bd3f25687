"""[A5], [B3] to [B6], [E2], [F2]: evidence with rows for what is no moment, though its parts are sets of links."""

import unittest

from echofields.cures import cures_hold
from echofields.echoes import overruled_holds, uncalm_holds
from echofields.endless import endless_holds
from echofields.likeness import difference_holds
from echofields.parting import parting_holds
from echofields.runs import is_moment
from tests import naive, naive_last, naive_more
from tests.samples import T

# Nothing ever fires but quietly, so the same rows would do if these were moments.
NEVER = ((2, 2), ((0, 1, (None, None), 1),) * 2)
MIXED = ((2, 2), ((0, 1, (None, None), 0), (0, 1, (None, None), 1)))
SHY = ((2, 2), ((1, 0, (None, None), 2), (1, 0, (None, None), 3)))


def spoilt_rows():
    """Return forms, each with some rows that are moments and one that is none."""
    found = []
    for filling in naive.all_fillings(NEVER):
        for field in (0, 1):
            spent = [(field, filling, (), (0,)), (field, filling, (), (1,)), (field, filling, (), (0, 1))]
            # A link that is pending and spent at once.
            found.append((NEVER, spent, (field, filling, (0,), (0,))))
            found.append((NEVER, spent, (field, filling, (1,), (1,))))
            found.append((NEVER, spent, (field, filling, (1,), (0, 1))))
            # A spent link that is no once link.
            found.append((MIXED, spent[1:2], (field, filling, (), (0,))))
            found.append((MIXED, spent[1:2], (field, filling, (), (0, 1))))
            found.append((SHY, spent[1:2], (field, filling, (), (0,))))
    return found


class NoMomentsTest(unittest.TestCase):
    def check(self, rows_of, holds, naive_holds):
        for form, good, bad in spoilt_rows():
            self.assertEqual([is_moment(form, moment) for moment in good], [True] * len(good))
            self.assertIs(is_moment(form, bad), False)
            needed = set(naive.reach(form, naive.asked(form)))
            for more, expected in (([], True), (good, True), (good + [bad], False), ([bad], False)):
                value = rows_of(sorted(needed | set(more)))
                self.assertIs(naive_holds(form, value), expected)
                self.assertIs(holds(form, value), expected)

    def test_heights(self):
        self.check(lambda moments: ("heights", tuple((moment, len(moment[2])) for moment in moments)),
                   endless_holds, naive.endless_holds)

    def test_ends(self):
        self.check(lambda moments: ("ends", tuple((moment, moment[1]) for moment in moments)),
                   parting_holds, naive.parting_holds)

    def test_closed_moments(self):
        self.check(lambda moments: ("closed", tuple(moments)), uncalm_holds, naive.uncalm_holds)

    def test_closed_pairs(self):
        self.check(lambda moments: ("closed", tuple(sorted((moment[1][moment[0]], moment) for moment in moments))),
                   overruled_holds, naive.overruled_holds)

    def test_differences(self):
        self.check(lambda moments: ("endless", (0, 0), (1, 1), 0, (), (1, 0, 1, 0),
                                    tuple((moment, len(moment[2])) for moment in moments)),
                   lambda form, value: difference_holds(T, form, value),
                   lambda form, value: naive_more.difference_holds(T, form, value))

    def test_cures(self):
        self.check(lambda moments: (((((), tuple((moment, len(moment[2])) for moment in moments))),), ()),
                   lambda form, value: cures_hold(form, "out", value),
                   lambda form, value: naive_last.cures_hold(form, "out", value))


if __name__ == "__main__":
    unittest.main()
