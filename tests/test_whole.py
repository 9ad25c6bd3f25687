"""[A2], [A3] and [Z1] over the whole program."""

import ast
import pathlib
import random
import unittest

from echofields import errors
from echofields.benches import Bench, SafeBench
from echofields.cures import find_cures, treated
from echofields.echoes import find_overruled, find_uncalm, overruled_holds, uncalm_holds
from echofields.endless import endless_holds, find_endless
from echofields.fields import Fields
from echofields.forms import field_ring
from echofields.likeness import idle_sets
from echofields.parting import ends_of, find_parting, parting_holds
from echofields.rules import RULES, run_by
from echofields.settled import find_unsettled, led_to
from echofields.shells import Shell
from echofields.texts import filling_text, form_text, parse_filling, parse_form
from tests import checks, naive, naive_last, naive_more
from tests.bench_model import random_change
from tests.samples import FORMS, S, T, duplicate, raised, same

PACKAGE = pathlib.Path(__file__).resolve().parent.parent / "echofields"
JUDGED = (
    (find_endless, endless_holds), (find_parting, parting_holds), (find_uncalm, uncalm_holds),
    (find_overruled, overruled_holds),
)


class WholeTest(unittest.TestCase):
    def test_a_evidence_or_a_beginning_and_never_both(self):
        words = ({"endless", "orders", "order"}, {"heights", "ends", "closed"})
        for form in checks.SMALL + checks.MIXED[::4]:
            for calm in (False, True):
                for find, holds in JUDGED:
                    value = find(form, calm=calm)
                    self.assertIs(holds(form, value, calm=calm), True)
                    # What other forms of these sizes tell is never accepted for the opposite.
                    for other in checks.SMALL:
                        told = find(other, calm=calm)
                        if other[0] == form[0] and holds(form, told, calm=calm):
                            self.assertIs(told[0] in words[0], value[0] in words[0])

    def test_b_more_links_treated_never_make_a_run_endless(self):
        for form in naive.turning_forms(12, 12, most=80):
            for way in ("out", "once"):
                told = {links: find_endless(treated(form, way, links))[0] for links in naive_last.all_sets(form)}
                for links in told:
                    for more in told:
                        if set(links) <= set(more) and told[links] == "heights":
                            self.assertEqual(told[more], "heights")
                cures = {links for links, _ in find_cures(form, way)[0]}
                self.assertEqual(cures, set(naive_more.least([row for row in told if told[row] == "heights"])))

    def test_c_without_a_ring_no_run_is_endless(self):
        single = 0
        for form in checks.MIXED:
            if field_ring(form)[0] == "ranks":
                self.assertEqual(find_endless(form)[0], "heights")
                targets = [link[1] for link in form[1]]
                if len(set(targets)) == len(targets):
                    single += 1
                    self.assertEqual(find_parting(form)[0], "ends")
                    self.assertIs(find_unsettled(form), None)
        self.assertGreater(single, 10)

    def test_d_in_a_settled_form_each_order_leads_to_one_filling(self):
        for form in [form for form in checks.MIXED if find_unsettled(form) is None][::4]:
            for filling, edit in naive.asked(form)[::6]:
                end = led_to(form, filling, (edit,))
                self.assertEqual(ends_of(form, filling, edit), (end,))
                for rule in RULES:
                    self.assertEqual(run_by(form, filling, edit, rule)[:2], ("end", end))
                fields = Fields(form, filling)
                fields += edit
                self.assertEqual(fields.filling, end)

    def test_f_texts_and_changes_that_are_undone(self):
        for form in FORMS + checks.MIXED:
            self.assertTrue(same(parse_form(form_text(form)), form))
            for filling in naive.all_fillings(form)[::5]:
                self.assertTrue(same(parse_filling(form, filling_text(filling)), filling))
        for seed, form in enumerate([form for form in checks.MIXED[::5] if len(form[0]) > 1]):
            bench = Bench(form)
            for number in range(40):
                raised(lambda: do_random(bench, seed * 100 + number))
            while bench.changes():
                bench.undo()
            self.assertTrue(same((bench.form_at(), list(bench.each_version())), (form, [form])))
            self.assertIs(bench == Bench(form), True)

    def test_g_equal_objects_answer_alike(self):
        one, other = SafeBench(T, calm=True), SafeBench(duplicate(T), calm=True)
        one.drop(0)
        one.undo()
        self.assertIs(one == other, True)
        for ask in (lambda x: x.verdict_at(), lambda x: x.evidence, lambda x: str(x), lambda x: bool(x), lambda x: len(x),
                    lambda x: x[1], lambda x: T[1][0] in x, lambda x: x.form_at(), lambda x: x.calm,
                    lambda x: Shell(x)("form"), lambda x: raised(lambda: x.copy().set_calm(False)).__class__):
            self.assertTrue(same(ask(one), ask(other)))
        one, other = Fields(S, (0, 0)), Fields(S, (0, 1))
        other.refill((0, 0))
        self.assertIs(one == other, True)
        for fields in (one, other):
            fields[0] = 1
        self.assertEqual((one.filling, one.last), (other.filling, other.last))

    def test_equal_calls_return_equal_results(self):
        for form in checks.MIXED[::10]:
            for call in (find_endless, find_parting, find_uncalm, find_overruled, find_unsettled, idle_sets,
                         lambda form: find_cures(form, "once")):
                self.assertTrue(same(call(form), call(duplicate(form))))


class ErrorsTest(unittest.TestCase):
    def test_each_error_is_raised_somewhere(self):
        known = {name for name, value in vars(errors).items() if isinstance(value, type)} - {"FieldError"}
        found = set()
        for file in PACKAGE.glob("*.py"):
            for node in ast.walk(ast.parse(file.read_text())):
                if isinstance(node, ast.Raise) and isinstance(node.exc, ast.Call):
                    found.add(node.exc.func.id)
        self.assertEqual(found - {"TypeError"}, known)


def do_random(bench, seed):
    change = random_change(random.Random(seed), bench.form_at())
    bench.attempt((change,))


if __name__ == "__main__":
    unittest.main()
