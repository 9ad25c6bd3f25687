"""[N1] to [N4]: benches."""

import random
import unittest

from echofields.benches import Bench, SafeBench
from echofields.endless import find_endless
from echofields.errors import (
    BadBatch, BadForm, BadLink, Busy, FieldError, NoGuard, NoItem, NoLink, NothingToUndo, NoTruth, NoValue, NoVersion,
    Rejected, TooMany, TooManyChanges, TooManyMoments,
)
from echofields.forms import form_error
from echofields.texts import form_text
from tests import naive, naive_last
from tests.bench_model import LINK, NO_CHANGES, Model, do, do_by_sign, outcome, random_change, state
from tests.samples import (
    ALSO_3001, ANY_VALUES, C, FORMS, FULL, JUST_3001, LONE, P, S, T, U, VERY_GREAT, duplicate, is_among, raised, same,
    spoiled,
)

LINKS = T[1] * 3


def filled():
    """Return a bench on which forty changes stand."""
    bench = Bench(S)
    for number in range(40):
        bench.guard(0, number % 4)
    return bench


class CreatedTest(unittest.TestCase):
    def test_a_new_bench(self):
        for form in FORMS + [JUST_3001]:
            bench = Bench(form)
            self.assertTrue(same(state(bench)[:4], (form, (), (form,), False)))
            self.assertTrue(same([bench[index] for index in range(len(bench))], list(form[1])))

    def test_what_is_no_form(self):
        for value in ANY_VALUES + spoiled(S):
            if form_error(value) is not None:
                error = raised(lambda: Bench(value))
                self.assertIs(error.__class__, BadForm)
                self.assertTrue(same(error.error, form_error(value)))


class ChangedTest(unittest.TestCase):
    def test_against_the_words(self):
        kinds = set()
        for seed in range(60):
            rnd = random.Random(seed)
            form = rnd.choice([S, T, C, ((2, 2), ()), ((2, 3, 2), ()), P])
            bench, model = Bench(form), Model(form)
            for _ in range(45):
                self.step(rnd, bench, model, kinds)
        self.assertGreaterEqual(kinds, {"add", "drop", "set", "guard", "entry", "undo", "TooMany", "BadLink", "NoLink",
                                        "NoGuard", "NoValue", "NoItem", "NothingToUndo"})

    def step(self, rnd, bench, model, kinds):
        if rnd.random() < 0.15:
            found, expected, word = outcome(bench.undo), model.undo(), "undo"
        else:
            change = random_change(rnd, model.forms[-1])
            way = rnd.choice([do, do_by_sign])
            found, expected, word = outcome(lambda: way(bench, change)), model.apply(change), change[0]
        self.assertTrue(same(found, expected), (found, expected))
        kinds.add(word if found.__class__ is int else found[0])
        self.assertTrue(same(bench.form_at(), model.forms[-1]))
        self.assertTrue(same(bench.changes(), tuple(model.changes)))
        self.assertTrue(same(tuple(bench.each_version()), tuple(model.forms)))
        self.assertEqual(str(bench), form_text(model.forms[-1]))

    def test_as_written(self):
        bench = Bench(((2, 2), ()))
        self.assertEqual([bench.add(T[1][0]), bench.add(T[1][1]), bench.form_at()], [1, 2, T])
        self.assertEqual([bench.guard(1, 1), bench.undo(), bench.entry(0, 1, None), bench.drop(1)], [3, 2, 3, 4])
        self.assertEqual(bench.replace(0, (1, 0, (None, 1), 3)), 5)
        self.assertEqual(bench.form_at(), ((2, 2), ((1, 0, (None, 1), 3),)))
        self.assertEqual(bench.changes(), (
            ("add", T[1][0]), ("add", T[1][1]), ("entry", 0, 1, None), ("drop", 1), ("set", 0, (1, 0, (None, 1), 3)),
        ))

    def test_changes_that_change_nothing_stand(self):
        bench = Bench(S)
        self.assertEqual([bench.guard(0, 1), bench.entry(0, 1, 2), bench.replace(0, S[1][0])], [1, 2, 3])
        self.assertEqual([bench.undo(), bench.undo(), bench.undo()], [2, 1, 0])
        self.assertIs(bench.form_at() == S, True)

    def test_each_change_is_undone(self):
        for change in (("add", (1, 0, (0, 1, None), 2)), ("drop", 0), ("set", 0, (1, 0, (0, 1, None), 2)), ("guard", 0, 2),
                       ("entry", 0, 0, 1)):
            bench = Bench(S)
            before = state(bench)
            self.assertEqual(do(bench, change), 1)
            self.assertNotEqual(bench.form_at(), S)
            self.assertEqual(bench.undo(), 0)
            self.assertTrue(same(state(bench), before))
            self.assertIs(bench == Bench(S), True)
            self.assertIs(raised(bench.undo).__class__, NothingToUndo)

    def test_forty_changes_and_one_more(self):
        bench = filled()
        before = state(bench)
        for call in (lambda: bench.add(None), lambda: bench.add(S[1][0]), lambda: bench.drop(0), lambda: bench.drop(9),
                     lambda: bench.replace(None, None), lambda: bench.guard(0, 0), lambda: bench.entry(0, 9, 9),
                     lambda: do_by_sign(bench, ("add", S[1][0])), lambda: do_by_sign(bench, ("drop", 0)),
                     lambda: do_by_sign(bench, ("set", 0, S[1][0]))):
            self.assertIs(raised(call).__class__, TooManyChanges)
            self.assertTrue(same(state(bench), before))
        self.assertEqual(len(bench.changes()), 40)
        self.assertEqual([bench.undo(), bench.drop(0)], [39, 40])
        self.assertEqual([bench.undo() for _ in range(40)], list(range(39, -1, -1)))
        self.assertIs(raised(bench.undo).__class__, NothingToUndo)
        self.assertEqual(bench.form_at(), S)

    def test_six_links_and_one_more(self):
        bench = Bench(((2, 2), LINKS))
        for link in (LINK, None, [1]):
            error = raised(lambda: bench.add(link))
            self.assertEqual((error.__class__, error.limit), (TooMany, 6))
        self.assertEqual(len(bench), 6)

    def test_what_is_no_link(self):
        for form in (S, C):
            good = form[1][0]
            for value in ANY_VALUES + spoiled(good):
                word = naive_last.link_word(form, value)
                bench = Bench(form)
                for call in (lambda: bench.add(value), lambda: bench.replace(0, value), lambda: do_by_sign(bench, ("add", value)),
                             lambda: do_by_sign(bench, ("set", 0, value))):
                    error = raised(call)
                    self.assertIs(error.__class__, BadLink if word else type(None))
                    if word:
                        self.assertEqual(error.error, word)
                        self.assertEqual(bench.form_at(), form)

    def test_what_is_no_index(self):
        for form in (S, T, LONE, FULL):
            for value in ANY_VALUES + [len(form[1]), -1, -len(form[1]), [0], slice(0, 1)]:
                if is_among(value, range(len(form[1]))):
                    continue
                bench = Bench(form)
                for call in (lambda: bench.drop(value), lambda: bench.replace(value, None), lambda: bench.guard(value, None),
                             lambda: bench.entry(value, None, "a"), lambda: bench[value],
                             lambda: do_by_sign(bench, ("drop", value)), lambda: do_by_sign(bench, ("set", value, LINK))):
                    error = raised(call)
                    self.assertIs(error.__class__, NoLink)
                    self.assertIs(error.given, value)
                self.assertEqual(bench.changes(), ())

    def test_what_is_no_guard_value_or_item(self):
        for value in ANY_VALUES + [4, -1]:
            for call, kind, allowed in (
                    (lambda: Bench(S).guard(0, value), NoGuard, range(4)),
                    (lambda: Bench(S).entry(0, value, 0), NoValue, range(2)),
                    (lambda: Bench(S).entry(0, value, "x"), NoValue, range(0)),
                    (lambda: Bench(S).entry(0, 1, value), NoItem, [None, 0, 1, 2])):
                if not is_among(value, allowed):
                    error = raised(call)
                    if kind is NoValue and is_among(value, range(2)):
                        self.assertEqual((error.__class__, error.given), (NoItem, "x"))
                    else:
                        self.assertIs(error.__class__, kind)
                        self.assertIs(error.given, value)

    def test_signs_stay_the_same_object(self):
        bench = first = Bench(((2, 2), ()))
        bench += LINK
        self.assertIs(bench, first)
        bench -= 0
        self.assertIs(bench, first)
        self.assertEqual(first.changes(), (("add", LINK), ("drop", 0)))


class AttemptTest(unittest.TestCase):
    def test_against_the_words(self):
        kinds = set()
        for seed in range(150):
            rnd = random.Random(seed)
            form = rnd.choice([S, T, ((2, 2), ()), P])
            bench, model = Bench(form), Model(form)
            for _ in range(3):
                many = rnd.choice([0, 1, 2, 3, 5, 20, 21])
                batch = tuple(random_change(rnd, model.forms[-1]) for _ in range(many))
                found, expected = outcome(lambda: bench.attempt(batch)), model.attempt(batch)
                self.assertTrue(same(found, expected), batch)
                kinds.add(found[0] if found.__class__ is tuple else "done")
                self.assertTrue(same(bench.changes(), tuple(model.changes)))
                self.assertTrue(same(bench.form_at(), model.forms[-1]))
        self.assertEqual(kinds, {"done", "Rejected", "BadBatch"})

    def test_as_written(self):
        bench = Bench(T)
        self.assertEqual(bench.attempt((("drop", 0), ("entry", 0, 1, None))), 2)
        self.assertEqual(str(bench), "2,2 / 1>0 0:0,-")
        self.assertEqual(bench.attempt(()), 2)

    def test_what_is_no_batch(self):
        change = ("guard", 0, 1)
        for value in ANY_VALUES + [[change], (change,) * 21, {"guard": 0}, (None,) * 21]:
            if value.__class__ is tuple and len(value) <= 20:
                continue
            bench = Bench(S)
            steps = []
            error = raised(lambda: bench.attempt(value, on_step=steps.append))
            self.assertIs(error.__class__, BadBatch)
            self.assertEqual((bench.changes(), steps), ((), []))
        self.assertEqual(Bench(S).attempt((change,) * 20), 20)

    def test_batches_rejected_at_each_place(self):
        for place in (0, 1, 2, 19):
            for value in NO_CHANGES:
                bench = Bench(S)
                bench.guard(0, 3)
                before = state(bench)
                batch = (("guard", 0, 2),) * place + (value,) + (("guard", 0, 1),) * (19 - place)
                expected = Model(S)
                expected.apply(("guard", 0, 3))
                if expected.attempt(batch) != ("Rejected", place):
                    continue
                error = raised(lambda: bench.attempt(batch))
                self.assertIs(error.__class__, Rejected, value)
                self.assertTrue(same(error.index, place))
                self.assertTrue(same(state(bench), before))

    def test_a_batch_that_comes_to_forty_and_beyond(self):
        bench = Bench(S)
        for _ in range(25):
            bench.guard(0, 1)
        before = state(bench)
        error = raised(lambda: bench.attempt((("guard", 0, 2),) * 16))
        self.assertEqual((error.__class__, error.index), (Rejected, 15))
        self.assertTrue(same(state(bench), before))
        self.assertEqual(bench.attempt((("guard", 0, 2),) * 15), 40)
        self.assertEqual(raised(lambda: bench.attempt((("guard", 0, 2),))).index, 0)
        self.assertEqual(bench.attempt(()), 40)

    def test_on_step_sees_each_change(self):
        bench = Bench(S)
        seen = []

        def look(given):
            self.assertIs(given, bench)
            seen.append((given.changes(), given.form_at(), len(given), str(given), given.calm, bool(given)))
            return False

        batch = (("guard", 0, 0), ("add", (1, 0, (0, 1, 1), 0)), ("drop", 0))
        self.assertEqual(bench.attempt(batch, on_step=look), 3)
        self.assertEqual([row[0] for row in seen], [batch[:1], batch[:2], batch])
        self.assertEqual([row[1] for row in seen], list(bench.each_version())[1:])
        self.assertEqual([row[2] for row in seen], [1, 2, 1])

    def test_on_step_is_called_ahead_of_the_next_item(self):
        seen = []
        error = raised(lambda: Bench(S).attempt((("guard", 0, 0), ("drop", 5), ("drop", 0)), on_step=lambda b: seen.append(1)))
        self.assertEqual((error.index, len(seen)), (1, 1))
        error = raised(lambda: Bench(S).attempt(((), ("drop", 0)), on_step=lambda b: seen.append(1)))
        self.assertEqual((error.index, len(seen)), (0, 1))

    def test_what_on_step_returns_makes_no_difference(self):
        for value in ANY_VALUES:
            bench = Bench(S)
            self.assertEqual(bench.attempt((("drop", 0),), on_step=lambda given: value), 1)
        self.assertEqual(Bench(S).attempt((("drop", 0),), on_step=None), 1)

    def test_on_step_that_raises(self):
        for kind in (ValueError, KeyError, StopIteration, GeneratorExit, KeyboardInterrupt, SystemExit, Exception, Busy,
                     TooManyChanges, FieldError, NothingToUndo, MyError):
            for place in (1, 2, 3):
                bench = Bench(S)
                bench.guard(0, 2)
                before = state(bench)
                error = kind()

                def stumble(given):
                    if len(given.changes()) == place + 1:
                        raise error

                with self.assertRaises(kind) as context:
                    bench.attempt((("guard", 0, 0), ("guard", 0, 3), ("drop", 0)), on_step=stumble)
                self.assertIs(context.exception, error)
                self.assertTrue(same(state(bench), before))
                self.assertEqual([bench.guard(0, 1), bench.undo()], [2, 1])

    def test_on_step_that_raises_rejected(self):
        bench = Bench(S)
        error = Rejected("mine")

        def stumble(given):
            raise error

        self.assertIs(raised(lambda: bench.attempt((("drop", 0),), on_step=stumble)), error)
        self.assertEqual(bench.changes(), ())


class MyError(BaseException):
    pass


def changing_calls(bench):
    """Return the calls that change a bench, most of them with what they would refuse besides."""
    return [
        lambda: bench.add(LINK), lambda: bench.add(None), lambda: bench.drop(0), lambda: bench.drop("a"),
        lambda: bench.replace(0, None), lambda: bench.guard(0, 1), lambda: bench.guard(9, 9), lambda: bench.entry(0, 0, 0),
        bench.undo, lambda: bench.attempt(()), lambda: bench.attempt(None), lambda: bench.attempt((("drop", 0),)),
        lambda: bench.attempt((("drop", 0),), on_step=lambda given: None), lambda: bench.set_calm(True),
        lambda: bench.set_calm(None), lambda: setattr(bench, "calm", False), lambda: setattr(bench, "calm", 0),
        lambda: do_by_sign(bench, ("add", LINK)), lambda: do_by_sign(bench, ("drop", 0)),
        lambda: do_by_sign(bench, ("set", 0, LINK)),
    ]


class BusyTest(unittest.TestCase):
    def check_busy(self, bench):
        before = state(bench)
        for call in changing_calls(bench):
            self.assertIs(raised(call).__class__, Busy)
            self.assertTrue(same(state(bench), before))

    def benches(self):
        return [Bench(S), SafeBench(S), filled_to(39)]

    def test_all_that_changes_is_refused(self):
        for bench in self.benches():
            seen = []

            def look(given):
                seen.append(1)
                self.check_busy(given)

            self.assertEqual(bench.attempt((("guard", 0, 2),), on_step=look), len(bench.changes()))
            self.assertEqual(seen, [1])
            self.assertEqual(bench.undo(), len(bench.changes()))

    def test_busy_that_on_step_lets_out(self):
        for number in range(20):
            bench = Bench(S)
            error = raised(lambda: bench.attempt((("guard", 0, 2),), on_step=lambda given: changing_calls(given)[number]()))
            self.assertIs(error.__class__, Busy)
            self.assertEqual((bench.changes(), bench.form_at()), ((), S))
            self.assertEqual([bench.drop(0), bench.undo()], [1, 0])

    def test_everything_can_be_asked(self):
        answers = []

        def ask(given):
            answers.append((state(given), bool(given), given.verdict_at(version=0), S[1][0] in given, given == given.copy()))

        bench = Bench(S)
        bench.attempt((("guard", 0, 1),), on_step=ask)
        self.assertEqual(answers, [(state(bench), True, find_endless(S), True, True)])

    def test_copies_are_not_busy(self):
        for bench in self.benches()[:2]:
            copies = []

            def take(given):
                twin = given.copy()
                self.assertEqual([twin.guard(0, 3), twin.undo(), twin.undo()], [2, 1, 0])
                self.assertEqual(twin.attempt((("drop", 0),)), 1)
                twin.calm = True
                copies.append(twin)

            bench.attempt((("guard", 0, 2),), on_step=take)
            self.assertEqual((len(copies[0]), copies[0].calm, len(bench), bench.calm), (0, True, 1, False))

    def test_another_bench_is_not_busy(self):
        one, other = Bench(S), Bench(S)
        one.attempt((("drop", 0),), on_step=lambda given: other.drop(0))
        self.assertEqual([one.changes(), other.changes()], [(("drop", 0),)] * 2)

    def test_no_longer_busy_in_each_case(self):
        def stumble(given):
            raise KeyError(0)

        for bench in self.benches():
            many = len(bench.changes())
            for batch, step in (((("guard", 0, 2),), lambda given: None), ((("guard", 0, 2),), stumble),
                                ((("guard", 0, 1), ("drop", 9)), lambda given: None)):
                try:
                    bench.attempt(batch, on_step=step)
                except (KeyError, Rejected):
                    pass
                while len(bench.changes()) > many:
                    bench.undo()
                self.assertEqual([bench.guard(0, 1), bench.undo()], [many + 1, many])

    def test_it_is_not_busy_while_items_are_looked_at(self):
        bench = Bench(S)
        seen = []

        def look(given):
            seen.append(len(given.changes()))

        self.assertEqual(bench.attempt((("guard", 0, 0), ("guard", 0, 1), ("guard", 0, 2)), on_step=look), 3)
        self.assertEqual(seen, [1, 2, 3])


def filled_to(many):
    bench = Bench(S)
    for _ in range(many):
        bench.guard(0, 1)
    return bench


class AskedTest(unittest.TestCase):
    def bench(self):
        bench = Bench(((2, 2), ()))
        bench.attempt((("add", T[1][0]), ("add", T[1][1]), ("guard", 1, 1), ("drop", 0)))
        return bench

    def test_versions(self):
        bench = self.bench()
        forms = [((2, 2), ()), ((2, 2), T[1][:1]), T, ((2, 2), (T[1][0], T[1][1][:3] + (1,))), ((2, 2), (T[1][1][:3] + (1,),))]
        self.assertEqual(list(bench.each_version()), forms)
        for version, form in enumerate(forms):
            self.assertTrue(same(bench.form_at(version=version), form))
            for calm in (False, True):
                bench.calm = calm
                self.assertTrue(same(bench.verdict_at(version=version), find_endless(form, calm=calm)))
        self.assertEqual(bench.form_at(), forms[-1])
        self.assertEqual(bench.form_at(version=None), forms[-1])
        self.assertEqual(bench.verdict_at(version=None), find_endless(forms[-1], calm=True))

    def test_each_version_is_a_generator(self):
        versions = self.bench().each_version()
        self.assertIs(iter(versions), versions)
        self.assertEqual(next(versions), ((2, 2), ()))
        self.assertEqual(len(list(versions)), 4)

    def test_what_is_no_version(self):
        bench = self.bench()
        for value in ANY_VALUES + [5, -1, [0], VERY_GREAT]:
            if value is not None and not is_among(value, range(5)):
                for call in (lambda: bench.form_at(version=value), lambda: bench.verdict_at(version=value)):
                    error = raised(call)
                    self.assertIs(error.__class__, NoVersion)
                    self.assertIs(error.given, value)

    def test_too_many_moments(self):
        for form in (JUST_3001, ALSO_3001):
            bench = Bench(form)
            for call in (bench.verdict_at, lambda: bool(bench), lambda: bench.verdict_at(version=0)):
                self.assertIs(raised(call).__class__, TooManyMoments)
            bench.calm = True
            self.assertIs(bool(bench), find_endless(form, calm=True)[0] == "heights")
            self.assertEqual(bench.drop(0), 1)

    def test_truth(self):
        for form in FORMS:
            for calm in (False, True):
                bench = Bench(form)
                bench.set_calm(calm)
                self.assertIs(bool(bench), find_endless(form, calm=calm)[0] == "heights")

    def test_links_in_it(self):
        for form in FORMS:
            bench = Bench(form)
            for value in ANY_VALUES + list(T[1]) + list(S[1]) + list(FULL[1]) + [list(link) for link in form[1]]:
                self.assertIs(value in bench, is_among(value, form[1]))
        for value in spoiled(S[1][0]):
            self.assertIs(value in Bench(S), is_among(value, S[1]))

    def test_a_loop_raises_a_type_error(self):
        for bench in (Bench(T), SafeBench(S)):
            for call in (iter, list, tuple, sorted, lambda x: [item for item in x], lambda x: [*x], enumerate, dict):
                with self.assertRaises(TypeError):
                    call(bench)

    def test_calm(self):
        bench = Bench(T)
        self.assertIs(bench.calm, False)
        bench.calm = True
        self.assertIs(bench.calm, True)
        bench.set_calm(True)
        self.assertIs(bench.calm, True)
        bench.drop(0)
        bench.set_calm(False)
        bench.undo()
        self.assertIs(bench.calm, False)
        self.assertEqual(bench.changes(), ())

    def test_what_is_no_truth(self):
        for value in ANY_VALUES:
            if value is not True and value is not False:
                bench = Bench(T)
                for call in (lambda: bench.set_calm(value), lambda: setattr(bench, "calm", value)):
                    error = raised(call)
                    self.assertIs(error.__class__, NoTruth)
                    self.assertIs(error.given, value)
                    self.assertIs(bench.calm, False)

    def test_copies(self):
        bench = self.bench()
        bench.calm = True
        twin = bench.copy()
        self.assertIs(twin.__class__, Bench)
        self.assertTrue(same(state(twin), state(bench)))
        before = state(bench)
        self.assertEqual([twin.drop(0), twin.undo(), twin.undo(), twin.undo()], [5, 4, 3, 2])
        twin.calm = False
        self.assertTrue(same(state(bench), before))
        other = bench.copy()
        bench.undo()
        self.assertTrue(same(state(other), before))

    def test_copies_of_new_benches(self):
        for bench in (Bench(S), SafeBench(S)):
            twin = bench.copy()
            self.assertIs(twin == bench, True)
            self.assertEqual([twin.drop(0), len(twin), len(bench)], [1, 0, 1])

    def test_equal_benches(self):
        forms = [S, T, U, P, LONE, ((2, 3), ()), ((2, 3), (S[1][0][:3] + (0,),))]
        benches = []
        for form in forms:
            for calm in (False, True):
                benches.append((form, calm, Bench(form)))
                benches[-1][2].calm = calm
        for one in benches:
            for other in benches:
                self.assertIs(one[2] == other[2], one[:2] == other[:2])
                self.assertIs(one[2] != other[2], one[:2] != other[:2])

    def test_what_was_done_before_makes_no_difference(self):
        one, other = Bench(S), Bench(S)
        one.guard(0, 2)
        self.assertIs(one == other, False)
        one.guard(0, 1)
        self.assertIs(one == other, True)
        self.assertEqual(one.verdict_at(), other.verdict_at())

    def test_it_is_equal_to_nothing_else(self):
        bench, safe = Bench(S), SafeBench(S)
        self.assertIs(bench == safe, False)
        self.assertIs(safe == bench, False)
        self.assertIs(safe != bench, True)
        self.assertIs(safe == SafeBench(S), True)
        for value in ANY_VALUES + [S, str(bench), Bench, object()]:
            for pair in ((bench, value), (value, bench), (safe, value), (value, safe)):
                self.assertIs(pair[0] == pair[1], False)
                self.assertIs(pair[0] != pair[1], True)

    def test_properties_and_objects_that_are_not_hashed(self):
        with self.assertRaises(TypeError):
            hash(Bench(S))
        with self.assertRaises(AttributeError):
            SafeBench(S).evidence = ()

    def test_nothing_passed_is_changed(self):
        values = [[0], list(LINK), [("drop", 0)], {"a": [1]}, (("add", [0, 1, [1, 0], 0]),)]
        before = duplicate(values)
        for value in values:
            bench = Bench(T)
            for call in (lambda: bench.add(value), lambda: bench.drop(value), lambda: bench.replace(0, value),
                         lambda: bench.entry(0, 0, value), lambda: bench.attempt(value), lambda: bench.set_calm(value),
                         lambda: bench.form_at(version=value), lambda: bench[value], lambda: Bench(value)):
                self.assertIsNotNone(raised(call))
            self.assertIs(value in bench, False)
        self.assertTrue(same(values, before))


if __name__ == "__main__":
    unittest.main()
