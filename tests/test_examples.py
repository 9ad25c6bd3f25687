"""The document's own examples, as written: they go on from one another, as there."""

import doctest
import unittest

FORMS = """
>>> from echofields.forms import field_ring, fillings, form_error, loud_links, wish
>>> T = ((2, 2), ((0, 1, (1, 0), 0), (1, 0, (0, 1), 0)))
>>> S = ((2, 3), ((0, 1, (None, 2), 1),))
>>> [form_error(T), form_error(((2, 2), ((0, 1, (1, 2), 0),))), fillings(S)]
[None, (0, 'table'), ((0, 0), (0, 1), (0, 2), (1, 0), (1, 1), (1, 2))]
>>> [wish(S, (0, 1), 0), loud_links(S, (1, 1)), loud_links(T, (0, 0)), field_ring(T), field_ring(S)]
[None, (0,), (0,), ('ring', (0, 1)), ('ranks', (0, 1))]
"""

RUNS = """
>>> from echofields.runs import begin, fire, is_moment, moment_behind, walk_order
>>> [begin(T, (0, 1), (0, 1)), begin(T, (0, 1), (0, 0)), fire(T, (0, (1, 1), (0,), ()), 0)]
[(0, (1, 1), (0,), ()), (0, (0, 1), (), ()), (0, (1, 0), (1,), ())]
>>> [moment_behind(T, (0, 1), (0, 1), (0, 1, 0, 1)), list(walk_order(S, (0, 1), (0, 1), (0,)))]
[(0, (1, 1), (0,), ()), [(0, (1, 1), (0,), ()), (0, (1, 2), (), (0,))]]
"""

FIELDS = """
>>> from echofields.fields import Fields
>>> from echofields.texts import filling_text, form_text, parse_filling, parse_form
>>> C = ((3, 3, 2), ((0, 1, (0, 2, 2), 0), (1, 2, (0, None, 1), 0), (1, 0, (0, 1, 2), 2)))
>>> [form_text(C), parse_form("2,3 / 0>1 1:-,2") == S, parse_filling(S, "1,2"), filling_text((0, 2))]
['3,3,2 / 0>1 0:0,2,2 / 1>2 0:0,-,1 / 1>0 2:0,1,2', True, (1, 2), '0,2']
>>> fields = Fields(C, (0, 0, 0))
>>> fields[0] = 1
>>> [fields.filling, fields.last, bool(fields), (1, 2) in fields, fields[2], str(fields)]
[(1, 2, 1), (0, 1, 2), False, True, 1, '1,2,1']
>>> [fields(((1, 0), (0, 2))), fields.filling, bool(fields)]
[((1, 2, 0), (0, 1, 2)), (2, 2, 1), True]
"""

REACHES = """
>>> from echofields.reaches import beginnings, reached, reached_from
>>> T = ((2, 2), ((0, 1, (1, 0), 0), (1, 0, (0, 1), 0)))
>>> S = ((2, 3), ((0, 1, (None, 2), 1),))
>>> [beginnings(S)[4:6], beginnings(T, calm=True), len(reached(S)), reached_from(S, (0, 1), (0, 1))]
[(((0, 0), (1, 2)), ((0, 1), (0, 0))), (), 22, ((0, (1, 1), (0,), ()), (0, (1, 2), (), (0,)))]
"""

ENDLESS = """
>>> from echofields.endless import endless_holds, find_endless
>>> P = ((2, 2), ((0, 1, (0, 0), 0), (0, 1, (1, 1), 0)))
>>> [find_endless(T), find_endless(T, calm=True), find_endless(P)[0], find_endless(P)[1][1]]
[('endless', (0, 0), (1, 1), (), (1, 0, 1, 0)), ('heights', ()), 'heights', ((0, (0, 0), (0, 1), ()), 2)]
>>> [endless_holds(T, ("endless", (0, 1), (0, 1), (0, 1), (0, 1, 0, 1))), endless_holds(T, ("heights", ()), calm=True)]
[True, True]
"""

PARTING = """
>>> from echofields.parting import ends_of, find_parting, parting_holds
>>> [find_parting(P), ends_of(P, (0, 0), (0, 1)), ends_of(T, (0, 0), (1, 1))]
[('orders', (0, 0), (0, 1), (0, 1), (1, 0)), ((1, 0), (1, 1)), ()]
>>> [find_parting(T)[0], find_parting(T)[1][0], parting_holds(P, ("orders", (1, 1), (0, 0), (1, 0), (0, 1)))]
['ends', ((0, (0, 0), (), ()), (0, 0)), True]
"""

ECHOES = """
>>> from echofields.echoes import find_overruled, find_uncalm, overruled_holds
>>> V = ((2, 2), ((0, 1, (1, 0), 0), (1, 0, (0, 0), 0)))
>>> [find_uncalm(P), find_overruled(V), overruled_holds(V, ("order", (0, 1), (0, 1), (0, 1, 0, 1)))]
[('order', (0, 0), (0, 0), ()), ('order', (0, 1), (0, 1), (0, 1, 0, 1)), True]
"""

COUNTING = """
>>> from echofields.counting import longest_order, many_orders, order_at, order_number, shortest_order
>>> Q = ((2, 2, 2), ((0, 1, (0, 1), 0), (0, 2, (0, 1), 0), (1, 2, (1, 0), 0)))
>>> [many_orders(Q, (0, 0, 0), (0, 1)), order_at(Q, (0, 0, 0), (0, 1), 1), order_number(Q, (0, 0, 0), (0, 1), (1, 0, 2))]
[3, (0, 2, 1), 2]
>>> [shortest_order(Q, (0, 0, 0), (0, 1)), longest_order(Q, (0, 0, 0), (0, 1)), shortest_order(T, (0, 0), (1, 1))]
[(0, 1, 2), (0, 1, 2), None]
"""

RULES = """
>>> from echofields.rules import rules_part, run_by, walk_rule
>>> [run_by(Q, (0, 0, 0), (0, 1), rule) for rule in ("queue", "stack", "least")]
[('end', (1, 1, 0), (0, 1, 2)), ('end', (1, 1, 1), (0, 2, 1)), ('end', (1, 1, 0), (0, 1, 2))]
>>> [run_by(T, (0, 0), (1, 1), "queue"), rules_part(Q, "queue", "stack"), rules_part(Q, "queue", "least")]
[('endless', (), (1, 0, 1, 0)), ((0, 0, 0), (0, 1)), None]
>>> list(walk_rule(Q, (0, 0, 0), (0, 1), "stack"))[1]
((0, (1, 1, 0), (1, 2), ()), (2, 1))
>>> [moment[1] for moment, line in walk_rule(T, (0, 0), (1, 1), "queue")]
[(0, 1), (1, 1), (1, 0), (0, 0), (0, 1)]
"""

TELLING = """
>>> from echofields.telling import calm_fillings, find_telling, least_differences, least_keys, tellers
>>> S = ((2, 3), ((0, 1, (None, 2), 1),))
>>> C = ((3, 3, 2), ((0, 1, (0, 2, 2), 0), (1, 2, (0, None, 1), 0), (1, 0, (0, 1, 2), 2)))
>>> [calm_fillings(S), find_telling(S, (1,), 0), find_telling(S, (0, 1), 1)[1][3]]
[((0, 0), (0, 1), (0, 2), (1, 2)), ('parted', (0, 2), (1, 2)), ((1, 2), 2)]
>>> [calm_fillings(C), find_telling(C, (2,), 0), tellers(C, 0), tellers(S, 0)]
[((0, 0, 0), (2, 2, 1)), ('told', (((0,), 0), ((1,), 2))), ((1,), (2,)), ()]
>>> [least_keys(C), least_differences(C), least_keys(S), least_differences(S)]
[((0,), (1,), (2,)), ((0, 1, 2),), ((0, 1),), ((0,), (1,))]
"""

SETTLED = """
>>> from echofields.settled import find_row, find_stuck, find_swap, find_unsettled, led_to, rooms
>>> U = ((2, 2), ((0, 1, (0, 1), 0), (1, 0, (0, 1), 0)))
>>> T = ((2, 2), ((0, 1, (1, 0), 0), (1, 0, (0, 1), 0)))
>>> [find_unsettled(S), find_unsettled(U), find_unsettled(T), led_to(S, (0, 1), ((0, 1), (1, 0)))]
[None, None, ((0, 0), (1, 1)), (1, 0)]
>>> [find_row(S, (0, 0), (1, 1)), find_row(U, (0, 0), (0, 1))]
[('row', ((0, 1), (1, 1)), (2, 2, 2, 1, 0, 1)), ('closed', ((0, 0), (1, 1)))]
>>> [find_swap(S, (0, 1), (1, 0)), find_stuck(S, (0, 0)), find_stuck(S, (1, 0)), rooms(U)]
[(0, 0), (1, 0), None, (((0, 0), (1, 1)), ((0, 1),), ((1, 0),))]
"""

LIKENESS = """
>>> from echofields.likeness import difference_holds, find_difference, idle_links, idle_sets
>>> P = ((2, 2), ((0, 1, (0, 0), 0), (0, 1, (1, 1), 0)))
>>> O = ((2, 2), ((0, 1, (1, 0), 0), (1, 0, (0, 1), 1)))
>>> D = ((2, 2), ((0, 1, (0, 1), 0), (0, 1, (0, 1), 0)))
>>> find_difference(P, ((2, 2), ((0, 1, (0, 0), 0),)))
('end', (0, 0), (0, 1), 0, (0, 1), ((0, (1, 0), (), ()), (0, (1, 0), (0,), ())))
>>> find_difference(T, O)
('endless', (0, 0), (1, 1), 0, (), (1, 0, 1, 0), (((1, (0, 1), (1,), ()), 2), ((1, (1, 0), (), (1,)), 0), ((1, (1, 1), (0,), (1,)), 1)))
>>> [idle_links(P), idle_links(D), idle_sets(D), find_difference(D, ((2, 2), ((0, 1, (0, 1), 2),)))]
[(), (0, 1), ((0,), (1,)), None]
"""

CURES = """
>>> from echofields.cures import cures_hold, fewest_cure, find_cures, treated
>>> [treated(T, "once", (1,)) == O, treated(T, "out", (0,)), fewest_cure(P, "out")]
[True, ((2, 2), ((1, 0, (0, 1), 0),)), ()]
>>> cures, others = find_cures(T, "out")
>>> [[links for links, rows in cures], others, cures_hold(T, "out", (cures, others)), cures_hold(T, "out", (cures, ()))]
[[(0,), (1,)], (((), ('endless', (0, 0), (1, 1), (), (1, 0, 1, 0))),), True, False]
"""

RINGS = """
>>> from echofields.rings import count_endless, endless_rule, firings, shares_after, value_after
>>> [firings((1, 2, 0, 3), (3,), 0, many) for many in (3, 4, 9, 10 ** 18)]
[3, None, 9, None]
>>> [endless_rule((1, 2, 0, 3), (3,), 0), endless_rule((1, 2, None, 0), (3, 2), 0), count_endless((1, 2, 0, 3), (3,), 0, 10)]
[(None, 0, 3), (3, None, None), 6]
>>> [firings((1, 2, 0, 3), (3, 3, 1), 0, many, closed=False) for many in (2, 5, 10 ** 18)]
[1, 4, 999999999999999999]
>>> [value_after((1, 2, 0, 3), (3,), 0, 10 ** 18, 7, 6), value_after((1, 2, 0, 3), (3,), 0, 10 ** 18, 6, 10 ** 18)]
[3, 0]
>>> shares_after((1, 2, 0, 3), (3,), 0, 10 ** 18, 4)
(2, 2, 1, 999999999999999995)
"""

BENCHES = """
>>> from echofields.benches import Bench, SafeBench
>>> bench = Bench(((2, 2), ()))
>>> [bench.add((0, 1, (1, 0), 0)), bench.add((1, 0, (0, 1), 0)), bool(bench), bench.form_at() == T]
[1, 2, False, True]
>>> [bench.guard(1, 1), bool(bench), bench.undo(), len(bench), (1, 0, (0, 1), 0) in bench]
[3, True, 2, 2, True]
>>> [bench.attempt((("drop", 0), ("entry", 0, 1, None))), str(bench), bench.form_at(version=1)]
[4, '2,2 / 1>0 0:0,-', ((2, 2), ((0, 1, (1, 0), 0),))]
>>> safe = SafeBench(T, calm=True)
>>> [safe.calm, safe.evidence, safe.drop(0), len(safe.evidence), bool(safe)]
[True, (), 1, 8, True]
"""
# That safe.set_calm(False) raises GoesOn((0, 0), (1, 1)) here is tested beside safe benches, as its wording is free.

SHELLS = """
>>> from echofields.benches import Bench
>>> from echofields.shells import Shell
>>> shell = Shell(Bench(S))
>>> [shell("add 1>0 0:0,0,1"), shell("verdict"), shell("end 0,1 0 1"), shell("loud 1,1"), shell("entry 0 0 9"), shell("Add")]
['ok 1', 'heights', '1,2 2', '0,1', 'error NoItem', 'unknown command']
"""


class ExamplesTest(unittest.TestCase):
    def check(self, *examples):
        known = {}
        for text, many in examples:
            case = doctest.DocTestParser().get_doctest(text, known, "example", None, 0)
            report = []
            result = doctest.DocTestRunner(verbose=False).run(case, out=report.append, clear_globs=False)
            known = case.globs
            self.assertEqual(result.failed, 0, "".join(report))
            self.assertEqual(result.attempted, many)

    def test_section_a(self):
        self.check((FORMS, 5), (RUNS, 3), (FIELDS, 8))

    def test_section_b(self):
        self.check((REACHES, 4), (ENDLESS, 4), (PARTING, 3), (ECHOES, 3), (COUNTING, 4), (RULES, 5))

    def test_sections_c_to_e(self):
        self.check((TELLING, 6), (SETTLED, 6), (LIKENESS, 7), (CURES, 4))

    def test_sections_g_and_n(self):
        self.check((FORMS, 5), (RINGS, 6), (BENCHES, 7), (SHELLS, 4))


if __name__ == "__main__":
    unittest.main()
