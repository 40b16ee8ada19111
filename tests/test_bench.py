"""[2] [23] A bench: its deeds with their refusals, steps, undo and redo, swaps, names and twins."""

import inspect
import random
import unittest

import samples
from heedless import bench as bench_file
from heedless.bench import NAMES, Bench
from heedless.errors import (BadDeed, BadMany, BadName, BadRow, BadSize, BadText, Full, Heeds, NoLetter, NoMachine,
                             NoneWaits, NoOutlet, NoRun, NotHanded, NothingLeft, NoWeb, Taken, TooWide, Unending,
                             Unlike, Unreached, Working)
from heedless.likes import least_of
from heedless.machines import Machine
from heedless.rules import machine_by, read_rules
from heedless.runs import Run
from heedless.webs import Web
from heedless.whole import whole_of
from samples import LEFT, MADE, THIRDS, RefusalCase, books_hold, every, hand_all, told_of, work_all

BACK = "each 2 with x gives y; each 3 with x gives z"
THREADS = (("m", "c", "n", "x"), ("n", "y", "m", "a"), ("n", "z", "out"))
THIRD = ("machine", "third", ["a", "b"], ["c"], THIRDS)
RULES = ("rules", "back", BACK)
WEB = ("web", "both", (("m", "third"), ("n", "back")), THREADS)
RUN = ("run", "one", "both")


def filled():
    """A bench with two machines, a web and a run that is handed letters and amid its work, by seven steps."""
    bench = Bench()
    for deed in (THIRD, RULES, WEB, RUN, ("hand", "one", "m", "a", 5), ("hand", "one", "n", "x", 4),
                 ("work", "one", 3, [1, 0, 1])):
        bench.do(deed)
    return bench


def both():
    return Web([("m", Machine(["a", "b"], ["c"], THIRDS)), ("n", machine_by(read_rules(BACK)))], THREADS)


def one():
    """The run of filled()."""
    run = hand_all(Run(both()), [5, 0, 4])
    run.work(most=3, row=[1, 0, 1])
    return run


def machine_deed(name, machine):
    return "machine", name, machine.letters(), machine.outlets(), machine.rows()


def shown(bench):
    """All that a bench tells."""
    return [bench.machines(), bench.webs(), bench.runs(), [bench.machine(name) for name in bench.machines()],
            [bench.web(name) for name in bench.webs()], [told_of(bench.run(name)) for name in bench.runs()],
            [bench.run(name).web() for name in bench.runs()], len(bench), repr(bench)]


def full_bench():
    """Six machines, webs and runs each."""
    bench = filled()
    for name in "efgh":
        bench.do(machine_deed(name, every(2)))
    for name in "efghi":
        bench.do(("web", name, (("m", "e"),), ()))
        bench.do(("run", name, "both"))
    return bench


class BenchCase(RefusalCase):
    def stays(self, kind, fields, bench, *deeds):
        """The deeds are refused so, alone or together behind another, and the bench stays as it was."""
        before, twin = shown(bench), bench.twin()
        if len(deeds) == 1:
            self.refused(kind, fields, bench.do, deeds[0])
        self.refused(kind, fields, bench.together, deeds)
        if "one" in bench.runs() and kind is not Full:
            self.refused(kind, fields, bench.together, [("hand", "one", "m", "b", 1), *deeds, THIRD])
        self.assertEqual(shown(bench), before)
        self.assertEqual(bench, twin)


class TellingTest(BenchCase):
    def test_an_empty_bench(self):
        bench = Bench()
        self.assertEqual((bench.machines(), bench.webs(), bench.runs()), ([], [], []))
        self.assertEqual((len(bench), repr(bench)), (0, "Bench(0 machines, 0 webs, 0 runs)"))
        self.assertEqual(bench, Bench())
        self.assertIsNot(bench, Bench())

    def test_by_hand(self):
        bench = filled()
        self.assertEqual((bench.machines(), bench.webs(), bench.runs()), (["back", "third"], ["both"], ["one"]))
        self.assertEqual((len(bench), repr(bench)), (1, "Bench(2 machines, 1 webs, 1 runs)"))
        self.assertEqual(bench.machine("third"), Machine(["a", "b"], ["c"], THIRDS))
        self.assertEqual(bench.machine("back"), machine_by(read_rules(BACK)))
        self.assertEqual(bench.web("both"), both())
        self.assertEqual(bench.run("one"), one())
        self.assertEqual(bench.run("one").web(), both())

    def test_names_rise(self):
        bench = full_bench()
        self.assertEqual(bench.machines(), ["back", "e", "f", "g", "h", "third"])
        self.assertEqual(bench.webs(), ["both", "e", "f", "g", "h", "i"])
        self.assertEqual(bench.runs(), ["e", "f", "g", "h", "i", "one"])
        self.assertEqual((len(bench), repr(bench)), (6, "Bench(6 machines, 6 webs, 6 runs)"))
        self.assertEqual(NAMES, 6)

    def test_no_such_name(self):
        bench = filled()
        for name in ("one", "both", "x", "", "THIRD"):
            self.refused(NoMachine, {"name": name}, bench.machine, name)
        for name in ("one", "third", "x", "", "BOTH"):
            self.refused(NoWeb, {"name": name}, bench.web, name)
        for name in ("both", "third", "x", "", "ONE"):
            self.refused(NoRun, {"name": name}, bench.run, name)
        self.assertEqual(bench, filled())

    def test_told_things_are_new(self):
        bench = filled()
        before = shown(bench)
        for told in (bench.machines(), bench.webs(), bench.runs(), bench.machine("third").rows(),
                     bench.web("both").threads()):
            self.assertIs(type(told), list)
            told.append("x")
            told.pop(0)
        run = bench.run("one")
        run.work()
        run.hand("m", "a")
        self.assertEqual(shown(bench), before)
        self.assertNotEqual(run, bench.run("one"))

    def test_deeds_tell_nothing(self):
        bench = Bench()
        for deed in (THIRD, RULES, WEB, RUN, ("hand", "one", "m", "a", 5), ("turn", "one", "m", "a"),
                     ("work", "one", 20000, ()), ("back", "one", "m", "a", 5), ("swap", "one", "m", "third"),
                     ("whole", "all", "both", [("x", "m", "a")]), ("drop", "run", "one")):
            self.assertIsNone(bench.do(deed))
        self.assertIsNone(bench.undo())
        self.assertIsNone(bench.redo())
        self.assertIsNone(bench.together([THIRD[:1] + ("more",) + THIRD[2:]]))
        self.assertIsNone(bench.together([]))


class DeedTest(BenchCase):
    def test_machine(self):
        bench = filled()
        rows = [[(1, (0,))], [(0, (1,))]]
        bench.do(("machine", "new", ("a",), ["c"], rows))
        self.assertEqual(bench.machine("new"), Machine(["a"], ["c"], rows))

    def test_machine_refusals(self):
        bench = filled()
        for name in ("", "abcdefg", "A", "a1"):
            self.stays(BadName, {"name": name}, bench, ("machine", name, [], [], []))
        self.stays(Taken, {"name": "third"}, bench, ("machine", "third", [], [], []))
        self.stays(BadSize, {}, bench, ("machine", "new", [], [], []))
        self.stays(BadSize, {}, bench, ("machine", "new", ["A"], list("wxyz"), []))
        self.stays(BadName, {"name": "A"}, bench, ("machine", "new", ["A"], ["B"], [[]]))
        self.stays(BadRow, {"at": 0}, bench, ("machine", "new", ["a"], ["b"], [[]]))
        self.stays(Unreached, {"stand": 1}, bench, ("machine", "new", ["a"], [], [[(0, ())], [(0, ())]]))
        rows = [[(1, ()), (0, ())], [(1, ()), (0, ())]]
        self.stays(Heeds, {"stand": 0, "one": "a", "other": "b"}, bench, ("machine", "new", ["a", "b"], [], rows))

    def test_full_is_last(self):
        bench = full_bench()
        self.stays(Taken, {"name": "e"}, bench, ("machine", "e", [], [], []))
        self.stays(BadRow, {"at": 0}, bench, ("machine", "new", ["a"], ["b"], [[]]))
        self.stays(Full, {}, bench, machine_deed("new", every(3)))
        self.stays(BadText, {"at": 0}, bench, ("rules", "new", "x"))
        self.stays(Full, {}, bench, ("rules", "new", BACK))
        self.stays(NoMachine, {"name": "no"}, bench, ("web", "new", (("m", "no"),), ()))
        self.stays(BadSize, {}, bench, ("web", "new", (), ()))
        self.stays(Full, {}, bench, ("web", "new", (("m", "e"),), ()))
        self.stays(NoWeb, {"name": "no"}, bench, ("whole", "new", "no", ()))
        self.stays(BadSize, {}, bench, ("whole", "new", "both", ()))
        self.stays(Full, {}, bench, ("whole", "new", "both", (("a", "m", "a"),)))
        self.stays(NoWeb, {"name": "no"}, bench, ("run", "new", "no"))
        self.stays(Full, {}, bench, ("run", "new", "both"))

    def test_room_is_made_by_a_drop(self):
        bench = full_bench()
        for kind, deed in (("machine", machine_deed("new", every(3))), ("web", ("web", "new", (("m", "e"),), ())),
                           ("run", ("run", "new", "both")), ("machine", ("rules", "newer", BACK)),
                           ("machine", ("whole", "newest", "both", (("a", "m", "a"),)))):
            self.stays(Full, {}, bench, deed)
            bench.together([("drop", kind, "f" if len(deed[1]) == 3 else "g" if deed[1] == "newer" else "h"), deed])
        self.assertEqual(repr(bench), "Bench(6 machines, 6 webs, 6 runs)")

    def test_rules(self):
        bench = Bench()
        bench.do(("rules", "new", " each 3with a, b 2gives c "))
        self.assertEqual(bench.machine("new"), Machine(["a", "b"], ["c"], THIRDS))

    def test_rules_refusals(self):
        bench = filled()
        for name in ("", "abcdefg", "A", "a1"):
            self.stays(BadName, {"name": name}, bench, ("rules", name, "x"))
        self.stays(Taken, {"name": "third"}, bench, ("rules", "third", "x"))
        self.stays(BadText, {"at": 0}, bench, ("rules", "new", "x"))
        self.stays(BadText, {"at": 5}, bench, ("rules", "new", "each 0 with a gives c"))
        self.stays(BadSize, {}, bench, ("rules", "new", "each 2 with a, b, c, d gives e"))
        wide = "; ".join(f"each {every} after 12 with {letter} gives c" for every, letter in zip((5, 6, 5), "abc"))
        self.stays(TooWide, {}, bench, ("rules", "new", wide))

    def test_web_refusals(self):
        bench = filled()
        for name in ("", "abcdefg", "A", "a1"):
            self.stays(BadName, {"name": name}, bench, ("web", name, (("m", "no"),), ()))
        self.stays(Taken, {"name": "both"}, bench, ("web", "both", (("m", "no"),), ()))
        self.stays(NoMachine, {"name": "no"}, bench, ("web", "new", (("m", "third"), ("M", "no"), ("x", "nor")), ()))
        self.stays(NoMachine, {"name": "both"}, bench, ("web", "new", (("m", "third"),) * 5 + (("m", "both"),), ()))
        self.stays(BadSize, {}, bench, ("web", "new", (), ()))
        self.stays(BadSize, {}, bench, ("web", "new", (("M", "third"),) * 5, ()))
        self.stays(BadName, {"name": "M"}, bench, ("web", "new", (("m", "third"), ("M", "third")), ()))
        self.stays(BadName, {"name": "m"}, bench, ("web", "new", (("m", "third"), ("m", "back")), ()))
        self.stays(NoMachine, {"name": "k"}, bench, ("web", "new", (("m", "third"),), (("k", "c", "out"),)))
        self.stays(NoOutlet, {"name": "z"}, bench, ("web", "new", (("m", "third"),), (("m", "z", "out"),)))
        self.stays(NoLetter, {"name": "z"}, bench, ("web", "new", (("m", "third"),), (("m", "c", "m", "z"),)))
        self.stays(Taken, {"name": "c"}, bench, ("web", "new", (("m", "third"),), (("m", "c", "out"),) * 2))
        self.stays(BadName, {"name": "Z"}, bench, ("web", "new", (("m", "third"),), (("m", "c", "Z"),)))

    def test_one_machine_as_several_parts(self):
        bench = filled()
        bench.do(("web", "twice", (("x", "third"), ("w", "third")), (("x", "c", "w", "a"),)))
        third = bench.machine("third")
        self.assertEqual(bench.web("twice"), Web([("w", third), ("x", third)], [("x", "c", "w", "a")]))

    def test_whole(self):
        bench = filled()
        ways = (("p", "m", "a"), ("q", "n", "x"))
        bench.do(("whole", "all", "both", ways))
        self.assertEqual(bench.machine("all"), whole_of(both(), ways))
        self.assertEqual(bench.machines(), ["all", "back", "third"])

    def test_whole_refusals(self):
        bench = filled()
        bench.do(("rules", "on", "each 1 with a gives c"))
        bench.do(("web", "on", (("m", "on"), ("n", "on")), (("m", "c", "m", "a"), ("n", "c", "out"))))
        bench.do(machine_deed("wide", every(60)))
        bench.do(("web", "wide", (("m", "wide"), ("n", "wide")), ()))
        way = ("x", "m", "a")
        for name in ("", "abcdefg", "A"):
            self.stays(BadName, {"name": name}, bench, ("whole", name, "no", ()))
        self.stays(Taken, {"name": "third"}, bench, ("whole", "third", "no", ()))
        self.stays(NoWeb, {"name": "no"}, bench, ("whole", "new", "no", ()))
        self.stays(NoWeb, {"name": "third"}, bench, ("whole", "new", "third", ()))
        self.stays(BadSize, {}, bench, ("whole", "new", "on", ()))
        self.stays(BadName, {"name": "X"}, bench, ("whole", "new", "on", (("X", "k", "a"),)))
        self.stays(NoMachine, {"name": "k"}, bench, ("whole", "new", "on", (("x", "k", "a"),)))
        self.stays(NoLetter, {"name": "z"}, bench, ("whole", "new", "on", (("x", "m", "z"),)))
        self.stays(Unending, {}, bench, ("whole", "new", "on", (("x", "n", "a"),)))
        self.stays(TooWide, {}, bench, ("whole", "new", "wide", (way, ("y", "n", "a"))))
        bench.do(("whole", "both", "wide", (way,)))
        self.assertEqual(len(bench.machine("both")), 60)

    def test_run_refusals(self):
        bench = filled()
        for name in ("", "abcdefg", "A"):
            self.stays(BadName, {"name": name}, bench, ("run", name, "no"))
        self.stays(Taken, {"name": "one"}, bench, ("run", "one", "no"))
        self.stays(NoWeb, {"name": "no"}, bench, ("run", "new", "no"))
        self.stays(NoWeb, {"name": "third"}, bench, ("run", "new", "third"))

    def test_called_alike(self):
        bench = filled()
        bench.together([("web", "third", (("m", "third"),), ()), ("run", "third", "third"),
                        ("rules", "both", BACK), ("rules", "one", BACK)])
        self.assertEqual((bench.machines(), bench.webs(), bench.runs()),
                         (["back", "both", "one", "third"], ["both", "third"], ["one", "third"]))

    def test_hand_turn_work_back(self):
        bench, run = filled(), one()
        for deed, call in ((("hand", "one", "m", "b", 999), lambda: run.hand("m", "b", many=999)),
                           (("turn", "one", "m", "b"), lambda: run.turn("m", "b")),
                           (("work", "one", 7, (2, 1)), lambda: run.work(most=7, row=(2, 1))),
                           (("work", "one", 0, [9]), lambda: run.work(most=0)),
                           (("work", "one", 20000, []), lambda: run.work()),
                           (("back", "one", "m", "b", 990), lambda: run.back("m", "b", many=990)),
                           (("hand", "one", "n", "x", 1), lambda: run.hand("n", "x"))):
            bench.do(deed)
            call()
            self.assertEqual(told_of(bench.run("one")), told_of(run))
            self.assertEqual(bench.run("one"), run)

    def test_refusals_of_runs(self):
        bench = filled()
        for word, rest in (("hand", ("k", "z", 0)), ("turn", ("k", "z")), ("work", (-1, [-1])), ("back", ("k", "z", 0)),
                           ("swap", ("k", "no"))):
            for name in ("no", "both", "third", "", "ONE"):
                self.stays(NoRun, {"name": name}, bench, (word, name, *rest))
        for word in ("hand", "back"):
            self.stays(NoMachine, {"name": "k"}, bench, (word, "one", "k", "z", 0))
            self.stays(NoLetter, {"name": "z"}, bench, (word, "one", "m", "z", 0))
            for many in (0, -1, 1000):
                self.stays(BadMany, {}, bench, (word, "one", "m", "a", many))
        self.stays(Working, {}, bench, ("back", "one", "m", "a", 1))
        self.stays(NoMachine, {"name": "k"}, bench, ("turn", "one", "k", "z"))
        self.stays(NoLetter, {"name": "z"}, bench, ("turn", "one", "m", "z"))
        self.refused(NoneWaits, {"name": "m", "letter": "b"}, bench.do, ("turn", "one", "m", "b"))
        for most, row in ((-1, ()), (20001, ()), (5, [-1])):
            self.stays(BadMany, {}, bench, ("work", "one", most, row))
        self.assertEqual(bench, filled())

    def test_refusals_of_back(self):
        bench = filled()
        bench.together([machine_deed("left", Machine(["y", "x"], ["o", "p"], LEFT)), ("web", "left", (("l", "left"),), ()),
                        ("run", "left", "left"), ("rules", "on", "each 1 with a gives c"),
                        ("web", "on", (("m", "on"),), (("m", "c", "m", "a"),)), ("run", "on", "on"),
                        machine_deed("wide", every(60)), ("web", "wide", (("m", "wide"), ("n", "wide")), ()),
                        ("run", "wide", "wide")])
        before = shown(bench)
        self.refused(NotHanded, {}, bench.do, ("back", "left", "l", "x", 1))
        self.refused(Unending, {}, bench.do, ("back", "on", "m", "a", 1))
        self.refused(TooWide, {}, bench.do, ("back", "wide", "m", "a", 1))
        self.assertEqual(shown(bench), before)

    def test_drop(self):
        bench = filled()
        for kind, name in (("machine", "third"), ("web", "both"), ("run", "one")):
            self.assertIsNone(bench.do(("drop", kind, name)))
        self.assertEqual(repr(bench), "Bench(1 machines, 0 webs, 0 runs)")
        self.assertEqual((bench.machines(), bench.webs(), bench.runs()), (["back"], [], []))

    def test_drop_refusals(self):
        bench = filled()
        for name in ("one", "both", "x", ""):
            self.stays(NoMachine, {"name": name}, bench, ("drop", "machine", name))
        for name in ("one", "third", "x", ""):
            self.stays(NoWeb, {"name": name}, bench, ("drop", "web", name))
        for name in ("both", "third", "x", ""):
            self.stays(NoRun, {"name": name}, bench, ("drop", "run", name))

    def test_what_was_made_stays(self):
        bench = filled()
        bench.together([("drop", "machine", "third"), ("drop", "machine", "back"), ("rules", "third", "each 2 with a gives c")])
        self.assertEqual(bench.web("both"), both())
        bench.together([("drop", "web", "both"), ("web", "both", (("m", "third"),), ())])
        self.assertEqual(bench.run("one"), one())
        bench.do(("work", "one", 20000, ()))
        run = one()
        run.work()
        self.assertEqual(bench.run("one"), run)
        bench.do(("run", "two", "both"))
        self.assertEqual(bench.run("two").web(), bench.web("both"))
        self.assertNotEqual(bench.run("two").web(), both())


class FormTest(BenchCase):
    BAD = [(), ("fly",), ("fly", "one", "m", "a"), ("",), ("Machine", "x", [], [], []), ("machine",),
           ("machine", "new", ["a"], []), ("machine", "new", ["a"], [], [[(0, ())]], 1), ("rules", "new"),
           ("rules", "new", BACK, 1), ("web", "new", ()), ("web", "new", (), (), ()), ("whole", "new", "both"),
           ("whole", "new", "both", (), ()), ("run", "new"), ("run", "new", "both", 1), ("hand", "one", "m", "a"),
           ("hand", "one", "m", "a", 1, 1), ("turn", "one", "m"), ("turn", "one", "m", "a", 1), ("work", "one", 1),
           ("work", "one"), ("work", "one", 1, (), ()), ("back", "one", "m", "a"), ("back", "one", "m", "a", 1, 1),
           ("swap", "one", "m"), ("swap", "one", "m", "third", 1), ("drop", "third"), ("drop", "machine"),
           ("drop", "machine", "third", 1), ("drop", "machines", "third"), ("drop", "", "third"), ("drop", "bench", "one"),
           ("undo",), ("redo",), ("twin", "one"), ("drop", "third", "machine"), ("drop", "rules", "back")]

    def test_by_do(self):
        bench = filled()
        for deed in self.BAD:
            self.refused(BadDeed, {"at": 0}, bench.do, deed)
            self.refused(BadDeed, {"at": 0}, bench.together, [deed])
        self.assertEqual(shown(bench), shown(filled()))

    def test_by_together(self):
        bench = filled()
        hand = ("hand", "one", "m", "a", 1)
        for deed in self.BAD:
            self.refused(BadDeed, {"at": 1}, bench.together, [hand, deed])
            self.refused(BadDeed, {"at": 2}, bench.together, (hand, hand, deed, hand, ("fly",)))
            # Ahead of all else, though that stands ahead.
            self.refused(BadDeed, {"at": 3}, bench.together, [("run", "A", "no"), ("hand", "no", "m", "a", 1), hand, deed])
        self.refused(BadDeed, {"at": 199}, bench.together, [hand] * 199 + [("fly",)])
        self.assertEqual(shown(bench), shown(filled()))

    def test_refused_is_no_step(self):
        bench = filled()
        bench.undo()
        for deed in self.BAD + [("run", "new", "no"), ("hand", "one", "m", "z", 1)]:
            self.assertRaises((BadDeed, NoWeb, NoLetter), bench.do, deed)
            self.assertRaises((BadDeed, NoWeb, NoLetter), bench.together, [("hand", "one", "m", "a", 1), deed])
        # So what was undone can still be done again.
        bench.redo()
        self.assertEqual(shown(bench), shown(filled()))
        self.refused(NothingLeft, {}, bench.redo)


class TogetherTest(BenchCase):
    def test_all(self):
        bench = Bench()
        bench.together([THIRD, RULES, WEB, RUN, ("hand", "one", "m", "a", 5), ("hand", "one", "n", "x", 4),
                        ("work", "one", 3, [1, 0, 1])])
        self.assertEqual(bench, filled())
        bench.undo()
        self.assertEqual(bench, Bench())
        self.refused(NothingLeft, {}, bench.undo)
        bench.redo()
        self.assertEqual(shown(bench), shown(filled()))

    def test_or_none(self):
        bench = Bench()
        self.refused(NoLetter, {"name": "z"}, bench.together, [THIRD, RULES, WEB, RUN, ("hand", "one", "m", "z", 5)])
        self.assertEqual(shown(bench), shown(Bench()))
        self.refused(NothingLeft, {}, bench.undo)
        bench = filled()
        self.refused(NoneWaits, {"name": "m", "letter": "b"}, bench.together,
                     [("work", "one", 20000, ()), ("hand", "one", "m", "b", 1), ("drop", "machine", "back"),
                      ("turn", "one", "m", "b"), ("turn", "one", "m", "b"), ("run", "two", "both")])
        self.assertEqual(shown(bench), shown(filled()))

    def test_one_step(self):
        bench = filled()
        bench.together([("work", "one", 20000, ()), ("run", "two", "both"), ("drop", "machine", "back")])
        bench.undo()
        self.assertEqual(shown(bench), shown(filled()))

    def test_the_first_refusal_goes_first(self):
        bench = filled()
        self.refused(NoRun, {"name": "no"}, bench.together, [("turn", "no", "m", "a"), ("run", "x", "no")])
        self.refused(NoWeb, {"name": "no"}, bench.together, [("run", "x", "no"), ("turn", "no", "m", "a")])

    def test_of_no_deeds_it_is_no_step(self):
        for none in ([], ()):
            bench = Bench()
            bench.together(none)
            self.refused(NothingLeft, {}, bench.undo)
            bench = filled()
            bench.undo()
            bench.together(none)
            bench.redo()
            self.assertEqual(bench, filled())
            bench.together(none)
            bench.undo()
            self.assertEqual(bench.run("one").tally(), [0, 0, 0])

    def test_a_name_made_and_used_and_dropped(self):
        bench = filled()
        bench.together([("run", "two", "both"), ("hand", "two", "m", "a", 9), ("drop", "run", "one"),
                        ("run", "one", "both"), ("drop", "run", "two")])
        self.assertEqual(bench.runs(), ["one"])
        self.assertEqual(bench.run("one"), Run(both()))

    def test_handed_lists_changed_behind(self):
        rows = [[list(pair) for pair in row] for row in THIRDS]
        letters, outlets, threads, row = ["a", "b"], ["c"], list(THREADS), [1, 0, 1]
        ways = [("p", "m", "a")]
        deeds = [("machine", "third", letters, outlets, rows), RULES,
                 ("web", "both", (("m", "third"), ("n", "back")), threads), RUN, ("hand", "one", "m", "a", 5),
                 ("hand", "one", "n", "x", 4), ("work", "one", 3, row), ("whole", "all", "both", ways)]
        bench = Bench()
        bench.together(deeds)
        before = shown(bench)
        self.assertEqual((letters, outlets, threads, row, ways),
                         (["a", "b"], ["c"], list(THREADS), [1, 0, 1], [("p", "m", "a")]))
        rows[0][0][0] = 0
        for thing in (rows, letters, outlets, threads, row, ways, deeds):
            thing.clear()
        self.assertEqual(shown(bench), before)
        bench.undo()
        bench.redo()
        self.assertEqual(shown(bench), before)


class StepsTest(BenchCase):
    DEEDS = [THIRD, RULES, WEB, RUN, ("hand", "one", "m", "a", 5), ("turn", "one", "m", "a"), ("run", "two", "both"),
             ("work", "one", 20000, ()), ("back", "one", "m", "a", 2), ("swap", "one", "m", "third"),
             ("whole", "all", "both", (("x", "m", "a"),)), ("drop", "machine", "third"), ("drop", "run", "one"),
             ("drop", "web", "both"), ("hand", "two", "n", "x", 1), ("work", "two", 0, ())]

    def test_to_both_ends(self):
        bench = Bench()
        views = [shown(bench)]
        for deed in self.DEEDS:
            bench.do(deed)
            views.append(shown(bench))
        for turn in range(2):
            self.refused(NothingLeft, {}, bench.redo)
            for view in reversed(views[:-1]):
                bench.undo()
                self.assertEqual(shown(bench), view)
            self.refused(NothingLeft, {}, bench.undo)
            self.assertEqual(bench, Bench())
            for view in views[1:]:
                bench.redo()
                self.assertEqual(shown(bench), view)

    def test_behind_a_new_deed_nothing_is_done_again(self):
        bench = filled()
        bench.undo()
        bench.undo()
        bench.do(("hand", "one", "m", "b", 1))
        self.refused(NothingLeft, {}, bench.redo)
        self.assertEqual(bench.run("one").handed(), [5, 1, 0])
        bench.undo()
        self.assertEqual(bench.run("one").handed(), [5, 0, 0])
        bench.redo()
        self.assertEqual(bench.run("one").handed(), [5, 1, 0])
        self.refused(NothingLeft, {}, bench.redo)

    def test_a_deed_that_changes_nothing_is_a_step(self):
        bench = filled()
        bench.undo()
        bench.do(("work", "one", 0, ()))
        self.refused(NothingLeft, {}, bench.redo)
        before = shown(bench)
        bench.undo()
        self.assertEqual(shown(bench), before)
        bench.undo()
        self.assertNotEqual(shown(bench), before)

    def test_any_steps(self):
        chance = random.Random(23)
        for turn in range(30):
            bench = Bench()
            views, at = [shown(bench)], 0
            for step in range(40):
                choice = chance.random()
                if choice < 0.3 and at > 0:
                    bench.undo()
                    at -= 1
                elif choice < 0.5 and at < len(views) - 1:
                    bench.redo()
                    at += 1
                else:
                    try:
                        bench.together(chance.sample(self.DEEDS, chance.choice([1, 1, 1, 2])))
                    except (ValueError, LookupError):
                        pass
                    else:
                        views = views[:at + 1] + [shown(bench)]
                        at += 1
                self.assertEqual(shown(bench), views[at])

    def test_refusals_without_steps(self):
        for call in (Bench().undo, Bench().redo, filled().redo):
            self.refused(NothingLeft, {}, call)


class TwinTest(BenchCase):
    def alike(self, one, other, told):
        self.assertIs(one == other, told)
        self.assertIs(other == one, told)
        self.assertIs(one != other, not told)

    def test_with_all_steps(self):
        bench = filled()
        bench.undo()
        bench.undo()
        twin = bench.twin()
        self.assertIs(type(twin), Bench)
        self.alike(bench, twin, True)
        for turn in range(2):
            twin.redo()
        self.refused(NothingLeft, {}, twin.redo)
        self.assertEqual(shown(twin), shown(filled()))
        self.alike(bench, twin, False)
        for turn in range(7):
            twin.undo()
        self.refused(NothingLeft, {}, twin.undo)
        self.alike(twin, Bench(), True)
        # The bench itself still has all its steps.
        self.assertEqual(bench.run("one").handed(), [5, 0, 0])
        for turn in range(2):
            bench.redo()
        self.refused(NothingLeft, {}, bench.redo)
        self.assertEqual(shown(bench), shown(filled()))
        for turn in range(7):
            bench.undo()
        self.refused(NothingLeft, {}, bench.undo)
        self.assertEqual(shown(bench), shown(Bench()))

    def test_twins_have_steps_of_their_own(self):
        bench = filled()
        twin = bench.twin()
        bench.undo()
        self.refused(NothingLeft, {}, twin.redo)
        twin.do(("drop", "run", "one"))
        bench.undo()
        self.assertEqual(bench.run("one").handed(), [5, 0, 0])
        for turn in range(8):
            twin.undo()
        self.refused(NothingLeft, {}, twin.undo)
        for turn in range(5):
            bench.undo()
        self.refused(NothingLeft, {}, bench.undo)

    def test_twins_go_apart(self):
        bench = filled()
        twin = bench.twin()
        bench.do(("work", "one", 1, ()))
        self.assertEqual(shown(twin), shown(filled()))
        twin.do(("drop", "run", "one"))
        self.assertEqual(bench.runs(), ["one"])
        bench.do(("drop", "run", "one"))
        self.alike(bench, twin, True)
        bench.undo()
        bench.undo()
        twin.undo()
        self.alike(bench, twin, True)
        self.assertEqual(shown(bench), shown(filled()))

    def test_equal_by_what_is_there_not_by_steps(self):
        bench = filled()
        bench.together([("drop", "machine", "back"), RULES])
        self.alike(bench, filled(), True)
        bench.undo()
        self.alike(bench, filled(), True)

    def test_unlike(self):
        for deed in (("drop", "machine", "back"), ("drop", "web", "both"), ("drop", "run", "one"),
                     ("hand", "one", "m", "a", 1), ("turn", "one", "m", "a"), ("run", "two", "both"),
                     ("rules", "more", BACK), ("web", "more", (("m", "back"),), ())):
            bench = filled()
            bench.do(deed)
            self.alike(bench, filled(), False)
        bench = filled()
        bench.together([("drop", "machine", "back"), ("rules", "back", "each 2 with x gives y")])
        self.alike(bench, filled(), False)
        bench = filled()
        bench.together([("drop", "machine", "back"), ("rules", "kcab", BACK)])
        self.alike(bench, filled(), False)
        bench = filled()
        bench.together([("drop", "web", "both"), ("web", "both", (("m", "third"), ("n", "back")), THREADS[:2])])
        self.alike(bench, filled(), False)

    def test_equal_to_nothing_else(self):
        for other in (None, 1, repr(filled()), both(), one(), [], {}):
            self.alike(filled(), other, False)


def same_machines():
    """Pairs of machines that do the same, with more, fewer or other stands."""
    chance = random.Random(5)
    pairs = []
    for machine in MADE:
        if len(machine) <= 30:
            rows = samples.blown_up(chance, machine.rows(), samples.idle_rows(chance, len(machine.letters())))
            if len(rows) <= 60:
                wide = Machine(machine.letters(), machine.outlets(), rows)
                pairs += [(machine, wide), (wide, machine), (wide, least_of(wide)[0]), (machine, machine)]
    return pairs


class SwapTest(BenchCase):
    def test_by_hand(self):
        # Stands 0 and 2 do the same, and so do 1 and 3; the swapped part stands at the least one.
        four = [[(1, (0,))], [(2, (5,))], [(3, (0,))], [(0, (5,))]]
        two = [[(1, (0,))], [(0, (5,))]]
        bench = Bench()
        bench.together([("machine", "four", ["a"], ["c"], four), ("machine", "two", ["a"], ["c"], two),
                        ("web", "w", (("m", "two"),), (("m", "c", "out"),)), ("run", "r", "w"),
                        ("hand", "r", "m", "a", 9), ("work", "r", 3, ())])
        before = told_of(bench.run("r"))
        bench.do(("swap", "r", "m", "four"))
        run = bench.run("r")
        self.assertEqual(told_of(run), before)
        self.assertEqual(run.web(), Web([("m", Machine(["a"], ["c"], four))], [("m", "c", "out")]))
        self.assertEqual(bench.web("w"), Web([("m", Machine(["a"], ["c"], two))], [("m", "c", "out")]))
        bench.do(("work", "r", 2, ()))
        self.assertEqual(bench.run("r").stands(), [3])
        bench.do(("swap", "r", "m", "four"))
        self.assertEqual(bench.run("r").stands(), [1])
        bench.do(("work", "r", 1, ()))
        bench.do(("swap", "r", "m", "two"))
        self.assertEqual((bench.run("r").stands(), bench.run("r").sent()), ([0], [15]))
        bench.undo()
        self.assertEqual(bench.run("r").stands(), [2])

    def test_back_goes_from_the_first_stands_of_the_machines_that_run_now(self):
        four = [[(1, (0,))], [(2, (5,))], [(3, (0,))], [(0, (5,))]]
        two = [[(1, (0,))], [(0, (5,))]]
        bench = Bench()
        bench.together([("machine", "four", ["a"], ["c"], four), ("machine", "two", ["a"], ["c"], two),
                        ("web", "w", (("m", "two"),), (("m", "c", "out"),)), ("run", "r", "w"),
                        ("hand", "r", "m", "a", 4), ("work", "r", 4, ()), ("swap", "r", "m", "four")])
        self.assertEqual(bench.run("r").stands(), [0])
        bench.do(("back", "r", "m", "a", 1))
        self.assertEqual((bench.run("r").stands(), bench.run("r").sent()), ([3], [5]))
        bench.do(("back", "r", "m", "a", 5))
        run = bench.run("r")
        self.assertEqual((run.stands(), run.sent(), run.tally(), run.handed()), ([2], [-5], [-2], [-2]))
        new = Run(run.web())
        new.back("m", "a", many=2)
        self.assertEqual(run, new)

    def test_a_first_stand_that_no_longer_comes_again(self):
        # The same is done, but by a machine that never comes to its first stand again.
        long = [[(1, (0,))], [(2, (5,))], [(1, (0,))]]
        two = [[(1, (0,))], [(0, (5,))]]
        bench = Bench()
        bench.together([("machine", "long", ["a"], ["c"], long), ("machine", "two", ["a"], ["c"], two),
                        ("web", "w", (("m", "two"),), (("m", "c", "out"),)), ("run", "r", "w"),
                        ("back", "r", "m", "a", 3), ("swap", "r", "m", "long")])
        run = bench.run("r")
        self.assertEqual((run.stands(), run.sent(), run.handed()), ([1], [-10], [-3]))
        self.refused(NotHanded, {}, bench.do, ("back", "r", "m", "a", 1))
        bench.together([("hand", "r", "m", "a", 5), ("work", "r", 9, ()), ("back", "r", "m", "a", 1)])
        self.assertEqual((bench.run("r").stands(), bench.run("r").sent(), bench.run("r").tally()), ([1], [0], [1]))

    def test_amid_the_work_of_any(self):
        chance = random.Random(9)
        for machine, other in same_machines():
            threads = [("m", outlet, chance.choice(["in", "out"])) for outlet in machine.outlets()]
            bench = Bench()
            bench.together([machine_deed("one", machine), machine_deed("two", other),
                            ("web", "w", (("m", "one"), ("k", "one")), threads), ("run", "r", "w"), ("run", "s", "w")])
            for letter in machine.letters():
                deed = ("m", letter, chance.randint(1, 50))
                bench.together([("hand", "r", *deed), ("hand", "s", *deed)])
            work = (chance.randint(0, 60), [chance.randint(0, 9) for k in range(60)])
            bench.together([("work", "r", *work), ("work", "s", *work)])
            before = bench.run("r")
            bench.do(("swap", "r", "m", "two"))
            run = bench.run("r")
            self.assertEqual(told_of(run)[1:], told_of(before)[1:])
            self.assertEqual(run.stands()[0], before.stands()[0])
            self.assertEqual(run.web(), Web([("m", other), ("k", machine)], threads))
            self.assertTrue(books_hold(run))
            self.same_from(machine, before.stands()[1], other, run.stands()[1])
            for stand in range(run.stands()[1]):
                self.unlike_from(machine, before.stands()[1], other, stand)
            bench.together([("work", "r", 20000, ()), ("work", "s", 20000, ())])
            self.assertEqual(told_of(bench.run("r"))[1:], told_of(bench.run("s"))[1:])

    def sends_from(self, machine, stand):
        """A machine begun at a stand, as the least one."""
        return least_of(samples.begun_at(machine, stand))[0]

    def same_from(self, machine, stand, other, twin):
        self.assertEqual(self.sends_from(machine, stand), self.sends_from(other, twin))

    def unlike_from(self, machine, stand, other, twin):
        self.assertNotEqual(self.sends_from(machine, stand), self.sends_from(other, twin))

    def test_in_a_ring(self):
        bench = filled()
        back = bench.machine("back")
        rows = samples.blown_up(random.Random(1), back.rows(), [[(1, ())], [(0, ())]])
        bench.do(machine_deed("wide", Machine(back.letters(), back.outlets(), rows)))
        bench.do(("swap", "one", "n", "wide"))
        self.assertTrue(books_hold(bench.run("one")))
        bench.do(("work", "one", 20000, ()))
        run = one()
        work_all(run)
        self.assertEqual(told_of(bench.run("one"))[1:], told_of(run)[1:])
        bench.do(("swap", "one", "n", "back"))
        self.assertEqual(bench.run("one"), run)

    def test_refusals(self):
        bench = filled()
        self.stays(NoRun, {"name": "no"}, bench, ("swap", "no", "k", "no"))
        self.stays(NoMachine, {"name": "k"}, bench, ("swap", "one", "k", "no"))
        self.stays(NoMachine, {"name": "third"}, bench, ("swap", "one", "third", "third"))
        self.stays(NoMachine, {"name": "no"}, bench, ("swap", "one", "m", "no"))
        self.stays(NoMachine, {"name": "m"}, bench, ("swap", "one", "m", "m"))
        self.stays(Unlike, {}, bench, ("swap", "one", "m", "back"))
        self.stays(Unlike, {}, bench, ("swap", "one", "n", "third"))

    def test_machines_that_do_not_the_same(self):
        bench = filled()
        turned = [[row[1], row[0]] for row in THIRDS]
        for machine in (machine_by(read_rules("each 3 with a, b gives c")), Machine(["b", "a"], ["c"], turned),
                        Machine(["a", "b"], ["d"], THIRDS), Machine(["a", "b"], [], [[(0, ()), (0, ())]]),
                        machine_by(read_rules("each 3 after 3 with a, b 2 gives c")), samples.begun_at(
                            bench.machine("third"), 1)):
            bench.do(machine_deed("new", machine))
            self.stays(Unlike, {}, bench, ("swap", "one", "m", "new"))
            bench.undo()

    def test_the_run_alone_is_changed(self):
        bench = filled()
        bench.do(("run", "two", "both"))
        bench.do(machine_deed("wide", Machine(["a", "b"], ["c"], samples.blown_up(
            random.Random(2), THIRDS, [[(1, ()), (0, ())], [(0, ()), (1, ())]]))))
        two, web = bench.run("two"), bench.web("both")
        bench.do(("swap", "one", "m", "wide"))
        self.assertEqual((bench.run("two"), bench.web("both")), (two, web))
        self.assertEqual(bench.run("one").web().machine("m"), bench.machine("wide"))
        bench.undo()
        self.assertEqual(bench.run("one"), one())


class InterfaceTest(unittest.TestCase):
    def test_methods_stand_in_the_class(self):
        for name in ("do", "together", "undo", "redo", "machines", "webs", "runs", "machine", "web", "run", "twin",
                     "__init__", "__len__", "__eq__", "__repr__"):
            self.assertIn(name, vars(Bench))

    def test_arguments(self):
        self.assertEqual(str(inspect.signature(Bench)), "()")
        for call, told in ((Bench.do, "(self, deed)"), (Bench.together, "(self, deeds)"), (Bench.undo, "(self)"),
                           (Bench.machine, "(self, name)"), (Bench.web, "(self, name)"), (Bench.run, "(self, name)")):
            self.assertEqual(str(inspect.signature(call)), told)
        self.assertEqual(bench_file.NAMES, 6)

    def test_by_name(self):
        bench = Bench()
        bench.do(deed=THIRD)
        bench.together(deeds=[RULES, WEB, RUN])
        self.assertEqual(bench.machine(name="back"), machine_by(read_rules(BACK)))
        self.assertEqual(bench.web(name="both"), both())
        self.assertEqual(bench.run(name="one"), Run(both()))


if __name__ == "__main__":
    unittest.main()
