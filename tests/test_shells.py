"""[N6]: shells."""

import random
import unittest

from echofields.benches import Bench, SafeBench
from echofields.errors import FieldError
from echofields.fields import Fields
from echofields.shells import Shell
from echofields.texts import filling_text, form_text
from tests import naive
from tests.bench_model import Model, outcome, random_change, state
from tests.samples import (
    ANY_VALUES, C, FORMS, JUST_3001, LONE, P, S, T, U, VERY_GREAT, duplicate, raised, same,
)

LINK = "1>0 0:0,0,1"
# Each is a command, with what S answers to it.
ANSWERS = {
    "add 1>0 0:0,0,1": "ok 1", "add 0>1 3:-,-": "ok 1", "add 0>1 0:0": "error BadLink", "add 9>0 0:0": "error BadLink",
    "add 0>99 0:0,1": "error BadLink", "add 0>1 99:0,1": "error BadLink", "add 0>0 0:0,0": "error BadLink",
    "add 0>1 0:0,1,2,3,4,5": "error BadLink", "add 0>1 0:99,-": "error BadLink", "add 99>99 99:99": "error BadLink",
    "drop 0": "ok 1", "drop 1": "error NoLink", "drop 99": "error NoLink", "drop 10": "error NoLink",
    "set 0 1>0 0:0,0,1": "ok 1", "set 1 1>0 0:0,0,1": "error NoLink", "set 0 1>0 0:0": "error BadLink",
    "set 99 9>9 9:9": "error NoLink", "guard 0 0": "ok 1", "guard 0 4": "error NoGuard", "guard 1 99": "error NoLink",
    "guard 0 99": "error NoGuard", "entry 0 0 -": "ok 1", "entry 0 0 2": "ok 1", "entry 0 1 2": "ok 1",
    "entry 0 0 9": "error NoItem", "entry 0 0 99": "error NoItem", "entry 0 2 9": "error NoValue",
    "entry 1 2 9": "error NoLink", "undo": "error NothingToUndo", "form": "2,3 / 0>1 1:-,2", "links": "1",
    "verdict": "heights", "loud 0,0": "none", "loud 1,1": "0", "loud 1": "error BadFilling", "loud 2,0": "error BadFilling",
    "loud 0,0,0,0": "error BadFilling", "loud 99,99": "error BadFilling", "end 0,1 0 1": "1,2 1", "end 0,1 0 0": "0,1 0",
    "end 1,1 1 2": "1,2 0", "end 0,1 2 0": "error BadEdit", "end 0,1 0 2": "error BadEdit", "end 0 9 9": "error BadFilling",
    "end 1,1,1 0 0": "error BadFilling", "end 0,1 99 99": "error BadEdit",
}
# None of these is a command.
OTHERS = [
    "", " ", "Add", "add", "add ", "add 1>0", "add 1>0 ", "add 1>0 0", "add 1>0 0:", "add 1>0 :0", "add >0 0:0", "add 1> 0:0",
    "add 1>0  0:0,0,1", "add  1>0 0:0,0,1", " add 1>0 0:0,0,1", "add 1>0 0:0,0,1 ", "add 1>0 0: 0,0,1", "add 1>0 0:0,,1",
    "add 1>0 0:0,0,1,", "add 1>0 0:,0,0,1", "add 1>0 0:0,1,2,3,4,5,0", "add 1>0 0:100", "add 100>0 0:0", "add 1>0 01:0",
    "add 01>0 0:0", "add 1>00 0:0", "add 1>0 0:00", "add +1>0 0:0", "add -1>0 0:0", "add 1>0 -1:0", "add 1>0 0:-1", "add 1>0 0:--",
    "add 1>0 -:0", "add ->0 0:0", "add 1>0 0:0;0", "add 1>0 0:0,0,1 0", "add 1>0>0 0:0", "add 1>0 0:0:0", "add 1<0 0:0",
    "add 1>0 0.0", "add / 1>0 0:0", "add 1>0 0:0,0,1\n", "add\n1>0 0:0,0,1", "add 1>0\n0:0,0,1",
    "add 0 1>0 0:0,0,1", "drop", "drop ", "drop  0", "drop 0 ", " drop 0", "drop -", "drop -1", "drop +0", "drop 00", "drop 100",
    "drop 0 0", "drop a", "drop 0.0", "drop 0\n", "Drop 0", "DROP 0", "drop0", "drop,0", "set 0", "set 0 1>0", "set 1>0 0:0,0,1",
    "set - 1>0 0:0,0,1", "set 00 1>0 0:0,0,1", "set 0  1>0 0:0,0,1", "set 0 1>0 0:0,0,1 ", "set 0 0 1>0 0:0", "set 0 1>0 0:",
    "guard 0", "guard 0 -", "guard - 0", "guard 0 0 0", "guard 0  0", "guard 00 0", "guard 0 01", "guard 0 100", "guard 0 0 ",
    "entry 0 0", "entry 0 0 0 0", "entry 0 - 0", "entry - 0 0", "entry 0 0 --", "entry 0 0 100", "entry 0 0 ", "entry 0 0 +1",
    "entry 0 0  1", "entry 0 0 None", "undo ", " undo", "undo 0", "Undo", "undo\n", "form ", "form 0", "links ", "links 1", "link",
    "verdict ", "verdict 0", "verdict calm", "loud", "loud ", "loud 0,", "loud ,0", "loud 0,,0", "loud 0 0", "loud 0,0 ",
    "loud 0, 0", "loud -,0", "loud -1,0", "loud 00,0", "loud 100,0", "loud 0,0,0,0,0", "loud  0,0", "loud (0,0)", "loud 0,0\n",
    "end", "end 0,1", "end 0,1 0", "end 0,1 0 1 ", "end 0,1 0 1 0", "end 0,1  0 1", "end 0,1 0  1", "end 0,1 0 -", "end 0,1 - 0",
    "end 0,1 00 1", "end 0,1 0 01", "end 0,1 0 100", "end 0,1,2,3,4 0 1", "end , 0 1", "end 0 1", "end 0,1 0,1", "end 0,1 (0, 1)",
    "add drop", "set", "guard", "entry", "changes", "calm", "attempt", "copy", "x" * 10000, "drop " * 2000, "drop 0\ndrop 0",
    "loud " + "0," * 4000 + "0",
]


class ExecuteTest(unittest.TestCase):
    def test_each_command(self):
        for command, answer in ANSWERS.items():
            for ask in (Shell.execute, Shell.__call__):
                for kind in (Bench, SafeBench):
                    shell = Shell(kind(S))
                    self.assertTrue(same(ask(shell, command), answer), command)
                    self.assertEqual(shell.last, command)

    def test_as_written(self):
        shell = Shell(Bench(S))
        commands = ["add 1>0 0:0,0,1", "verdict", "end 0,1 0 1", "loud 1,1", "entry 0 0 9", "Add"]
        self.assertEqual([shell(command) for command in commands],
                         ["ok 1", "heights", "1,2 2", "0,1", "error NoItem", "unknown command"])

    def test_other_values(self):
        values = [value for value in ANY_VALUES if not same(value, "form")]
        for value in values + OTHERS + [b"undo", ("undo",), ["undo"], {"undo": 0}, VERY_GREAT]:
            bench = Bench(S)
            bench.guard(0, 3)
            shell = Shell(bench)
            self.assertEqual(shell("links"), "1")
            before = state(bench)
            for ask in (shell.execute, shell):
                self.assertEqual(ask(value), "unknown command", value)
            self.assertEqual(shell.last, "links")
            self.assertTrue(same(state(bench), before))

    def test_last(self):
        shell = Shell(Bench(T))
        self.assertIs(shell.last, None)
        self.assertEqual(shell("nothing"), "unknown command")
        self.assertIs(shell.last, None)
        command = "drop " + "9"
        self.assertEqual(shell(command), "error NoLink")
        self.assertIs(shell.last, command)
        shell.execute("form")
        self.assertEqual(shell.last, "form")
        with self.assertRaises(AttributeError):
            shell.last = "form"

    def test_all_numbers_from_0_to_99(self):
        shell = Shell(Bench(S))
        for number in range(100):
            self.assertEqual(shell(f"guard 0 {number}").split(" ")[0], "ok" if number < 4 else "error")
            self.assertNotEqual(shell(f"loud {number}"), "unknown command")
            self.assertEqual(shell.last, f"loud {number}")
            if number < 10:
                self.assertEqual(shell(f"drop 0{number}"), "unknown command")
        for number in (100, 101, 999, 1000, 10 ** 20):
            self.assertEqual(shell(f"drop {number}"), "unknown command")


class BenchTest(unittest.TestCase):
    def test_it_asks_and_changes_this_very_bench(self):
        bench = Bench(S)
        shell, other = Shell(bench), Shell(bench)
        self.assertEqual([shell("guard 0 0"), other("undo"), other("undo")], ["ok 1", "ok 0", "error NothingToUndo"])
        bench.drop(0)
        self.assertEqual([shell("links"), shell("form"), shell.last, other.last], ["0", "2,3", "form", "undo"])

    def test_against_the_methods(self):
        kinds = set()
        for seed in range(40):
            rnd = random.Random(seed)
            form = rnd.choice([S, T, P, ((2, 2), ()), C])
            safe = seed % 2 == 0 and naive.find_endless(form)[0] == "heights"
            shell = Shell(SafeBench(form) if safe else Bench(form))
            model = Model(form, False, safe)
            for _ in range(45 if not safe else 15):
                if rnd.random() < 0.1:
                    command, expected = "undo", model.undo()
                else:
                    change = random_change(rnd, model.forms[-1])
                    command = command_of(change)
                    if command is None:
                        continue
                    expected = model.apply(change)
                word = f"ok {expected}" if expected.__class__ is int else f"error {expected[0]}"
                self.assertEqual(shell(command), word)
                kinds.add(word.split(" ")[1] if word[0] == "e" else "ok")
                self.assertEqual(shell("form"), form_text(model.forms[-1]))
                self.assertEqual(shell("links"), str(len(model.forms[-1][1])))
        self.assertGreaterEqual(kinds, {"ok", "TooMany", "BadLink", "NoLink", "NoGuard", "NothingToUndo", "GoesOn", "NoItem"})

    def test_loud_and_end(self):
        for form in FORMS:
            shell = Shell(Bench(form))
            for filling, edit in naive.asked(form)[::3]:
                text = filling_text(filling)
                loud = [str(index) for index, (source, target, table, _) in enumerate(form[1])
                        if table[filling[source]] not in (None, filling[target])]
                self.assertEqual(shell(f"loud {text}"), ",".join(loud) or "none")
                fields = Fields(form, filling)
                found = outcome(lambda: put(fields, edit))
                expected = "endless" if found is not None else f"{fields} {len(fields.last)}"
                self.assertEqual(shell(f"end {text} {edit[0]} {edit[1]}"), expected)

    def test_verdicts(self):
        self.assertEqual([Shell(Bench(form))("verdict") for form in (S, T, U, LONE)],
                         ["heights", "endless", "heights", "heights"])
        bench = Bench(JUST_3001)
        shell = Shell(bench)
        self.assertEqual([shell("verdict"), shell.last], ["error TooManyMoments", "verdict"])
        bench.calm = True
        self.assertEqual(shell("verdict"), naive.find_endless(JUST_3001, True)[0])
        bench = Bench(T)
        bench.calm = True
        self.assertEqual(Shell(bench)("verdict"), "heights")
        self.assertEqual(Shell(Bench(T))("end 0,0 1 1"), "endless")

    def test_a_busy_bench(self):
        bench = Bench(S)
        shell = Shell(bench)
        answers = []

        def ask(given):
            answers.extend(shell(command) for command in ("undo", "drop 0", "drop 9", "links", "form", "guard 0 9", "nothing"))

        self.assertEqual(bench.attempt((("guard", 0, 0),), on_step=ask), 1)
        self.assertEqual(answers, ["error Busy", "error Busy", "error Busy", "1", "2,3 / 0>1 0:-,2", "error Busy",
                                   "unknown command"])
        self.assertEqual([shell("undo"), shell.last], ["ok 0", "undo"])

    def test_safe_benches(self):
        shell = Shell(SafeBench(T, calm=True))
        self.assertEqual([shell("verdict"), shell("drop 0"), shell("add 0>1 0:1,0")], ["heights", "ok 1", "ok 2"])
        shell = Shell(SafeBench(((2, 2), T[1][:1])))
        self.assertEqual([shell("add 1>0 0:0,1"), shell("add 1>0 1:0,1"), shell("guard 1 0"), shell("links")],
                         ["error GoesOn", "ok 1", "error GoesOn", "2"])

    def test_forty_changes(self):
        shell = Shell(Bench(S))
        self.assertEqual([shell("guard 0 1") for _ in range(41)], [f"ok {k}" for k in range(1, 41)] + ["error TooManyChanges"])
        self.assertEqual(shell("drop 7"), "error TooManyChanges")

    def test_nothing_passed_is_changed(self):
        values = [["undo"], {"undo": [0]}, ("drop", [0])]
        before = duplicate(values)
        for value in values:
            self.assertEqual(Shell(Bench(S))(value), "unknown command")
        self.assertTrue(same(values, before))
        self.assertTrue(issubclass(FieldError, ValueError))
        self.assertIs(raised(lambda: Shell(Bench(S))("drop 9")), None)


def put(fields, edit):
    fields += edit


def command_of(change):
    """Return the command for a change, None if there is none."""
    word, *given = change
    texts = []
    for item in given:
        if isinstance(item, tuple):
            try:
                source, target, table, guard = item
                items = ",".join("-" if entry is None else str(entry) for entry in table)
                item = f"{source}>{target} {guard}:{items}"
            except (TypeError, ValueError):
                return None
            if "True" in item or "False" in item or item.endswith(":"):
                return None
        elif isinstance(item, list):
            return None
        texts.append("-" if item is None else str(item))
    if word in ("add", "set") and texts[-1] == "-":
        return None
    return " ".join([word] + texts)


if __name__ == "__main__":
    unittest.main()
