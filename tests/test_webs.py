"""[2] [11] [15] Webs: names, kinds, doors, goals, refusals, square and door rates."""

import inspect
import itertools
import unittest
from fractions import Fraction

import samples
from heedless.errors import BadName, BadSize, NoLetter, NoMachine, NoOutlet, Taken
from heedless.machines import Machine
from heedless.rules import machine_by, read_rules
from heedless.webs import Web
from samples import LEFT, THIRDS, RefusalCase, made_webs


def thirds():
    return Machine(["a", "b"], ["c"], THIRDS)


def left():
    return Machine(["y", "x"], ["o", "p"], LEFT)


def still(letters, outlets=""):
    """A machine of one stand that sends one of each outlet for each letter."""
    return Machine(list(letters), list(outlets), [[(0, (1,) * len(outlets)) for letter in letters]])


THREADS = [("n", "p", "m", "b"), ("m", "c", "n", "y"), ("n", "o", "out")]


def both():
    return Web([("n", left()), ("m", thirds())], THREADS)


class TellingTest(RefusalCase):
    def test_by_hand(self):
        web = both()
        self.assertEqual(web.names(), ["m", "n"])
        self.assertEqual((web.machine("m"), web.machine("n")), (thirds(), left()))
        self.assertEqual(web.threads(), [("m", "c", "n", "y"), ("n", "o", "out"), ("n", "p", "m", "b")])
        self.assertEqual(web.kinds(), [("m", "a"), ("m", "b"), ("n", "y"), ("n", "x")])
        self.assertEqual(web.doors(), ["out"])
        self.assertEqual(len(web), 4)
        self.assertEqual(repr(web), "Web(2 machines, 4 kinds, 1 doors)")
        self.assertEqual(web.goal("m", "c"), ("n", "y"))
        self.assertEqual(web.goal("n", "p"), ("m", "b"))
        self.assertEqual(web.goal("n", "o"), "out")

    def test_no_threads(self):
        web = Web([("one", left())], [])
        self.assertEqual((web.threads(), web.doors()), ([], []))
        self.assertIsNone(web.goal("one", "o"))
        self.assertEqual(repr(web), "Web(1 machines, 2 kinds, 0 doors)")
        self.assertEqual(repr(Web([("a", still("a"))], ())), "Web(1 machines, 1 kinds, 0 doors)")

    def test_kinds_of_values(self):
        web = both()
        for told in (web.names(), web.threads(), web.kinds(), web.doors(), web.square(), web.door_rates()):
            self.assertIs(type(told), list)
        for told in web.threads() + web.kinds() + [web.goal("m", "c")]:
            self.assertIs(type(told), tuple)
        for row in web.square() + web.door_rates():
            self.assertIs(type(row), list)
            self.assertEqual([type(rate) for rate in row], [tuple] * 4)
        self.assertIs(type(web.machine("m")), Machine)
        self.assertIs(type(web.goal("n", "o")), str)

    def test_doors_are_told_once_and_rise(self):
        web = Web([("a", still("a", "pqr")), ("b", still("b", "pqr"))],
                  [("b", "p", "zz"), ("a", "r", "z"), ("a", "q", "ab"), ("b", "r", "zz"), ("b", "q", "z")])
        self.assertEqual(web.doors(), ["ab", "z", "zz"])
        self.assertEqual(repr(web), "Web(2 machines, 2 kinds, 3 doors)")

    def test_a_door_may_be_called_as_a_machine_or_letter(self):
        web = Web([("a", still("a", "a"))], [("a", "a", "a")])
        self.assertEqual((web.goal("a", "a"), web.doors()), ("a", ["a"]))
        self.assertEqual(web.square(), [[(0, 1)]])
        self.assertEqual(web.door_rates(), [[(1, 1)]])

    def test_one_machine_under_two_names(self):
        machine = thirds()
        web = Web([("b", machine), ("a", machine)], [("a", "c", "b", "a"), ("b", "c", "b", "a")])
        self.assertEqual(web.kinds(), [("a", "a"), ("a", "b"), ("b", "a"), ("b", "b")])
        self.assertEqual(web.goal("a", "c"), web.goal("b", "c"))

    def test_lists_or_tuples_are_one(self):
        web = Web((("n", left()), ("m", thirds())), tuple(THREADS))
        self.assertEqual(web, both())
        self.assertEqual(web.threads(), both().threads())

    def test_by_name(self):
        self.assertEqual(Web(threads=THREADS, machines=[("n", left()), ("m", thirds())]), both())
        self.assertEqual(both().machine(name="m"), thirds())
        self.assertEqual(both().goal(outlet="c", name="m"), ("n", "y"))
        self.assertEqual(list(inspect.signature(Web).parameters), ["machines", "threads"])

    def test_methods_stand_in_the_class(self):
        for name in ("names", "machine", "threads", "kinds", "doors", "goal", "square", "door_rates",
                     "__init__", "__len__", "__eq__", "__repr__"):
            self.assertIn(name, vars(Web))

    def test_no_machine_and_no_outlet(self):
        web = both()
        for name in ("a", "out", "", "M", "mm"):
            self.refused(NoMachine, {"name": name}, web.machine, name)
            self.refused(NoMachine, {"name": name}, web.goal, name, "c")
            self.refused(NoMachine, {"name": name}, web.goal, name, "none")
        for outlet in ("a", "o", "", "out"):
            self.refused(NoOutlet, {"name": outlet}, web.goal, "m", outlet)
        self.assertEqual(web, both())


class EqualTest(unittest.TestCase):
    def alike(self, one, other, told):
        self.assertIs(one == other, told)
        self.assertIs(other == one, told)
        self.assertIs(one != other, not told)

    def test_order_of_what_is_handed_in_is_all_one(self):
        for machines in itertools.permutations([("n", left()), ("m", thirds())]):
            for threads in itertools.permutations(THREADS):
                self.alike(Web(machines, threads), both(), True)

    def test_unlike(self):
        machines = [("n", left()), ("m", thirds())]
        for other in (Web(machines, THREADS[:2]), Web(machines, []), Web([("n", left())], [("n", "o", "out")]),
                      Web(machines, THREADS[:2] + [("n", "o", "door")]),
                      Web(machines, [("n", "o", "m", "b"), ("m", "c", "n", "y"), ("n", "p", "out")]),
                      Web(machines, [("n", "p", "m", "a"), ("m", "c", "n", "y"), ("n", "o", "out")]),
                      Web(machines + [("o", thirds())], THREADS),
                      Web([("n", left()), ("m", machine_by(read_rules("each 3 with a, b gives c")))], THREADS)):
            self.alike(both(), other, False)

    def test_unlike_by_names_alone(self):
        self.alike(Web([("a", thirds())], []), Web([("b", thirds())], []), False)
        self.alike(Web([("a", thirds()), ("b", left())], []), Web([("b", thirds()), ("a", left())], []), False)

    def test_equal_to_nothing_else(self):
        for other in (None, 3, repr(both()), thirds(), THREADS, ([("n", left()), ("m", thirds())], THREADS)):
            self.alike(both(), other, False)


class CopyTest(RefusalCase):
    def test_what_was_handed_in_may_change_behind(self):
        machines, threads = [("n", left()), ("m", thirds())], list(THREADS)
        web = Web(machines, threads)
        self.assertEqual((machines, threads), ([("n", left()), ("m", thirds())], THREADS))
        machines[0] = ("z", thirds())
        machines.pop()
        threads.append(("m", "c", "out"))
        threads[0] = ("n", "p", "other")
        self.assertEqual(web, both())
        self.assertEqual(web.names(), ["m", "n"])
        self.assertEqual(web.goal("n", "p"), ("m", "b"))
        self.assertEqual(web.doors(), ["out"])

    def test_told_lists_are_new(self):
        web = both()
        before = [web.names(), web.threads(), web.kinds(), web.doors(), web.square(), web.door_rates()]
        for told in (web.names(), web.threads(), web.kinds(), web.doors()):
            told.append("x")
            told.pop(0)
        square, door_rates = web.square(), web.door_rates()
        square[0].append((7, 1))
        square[1][0] = (9, 1)
        self.assertEqual(square[2:], before[4][2:])
        square.pop()
        door_rates[0].clear()
        door_rates.clear()
        web.machine("m").rows().clear()
        self.assertEqual([web.names(), web.threads(), web.kinds(), web.doors(), web.square(), web.door_rates()], before)
        self.assertEqual(web, both())

    def test_refused_changes_nothing(self):
        machines, threads = [("n", left()), ("m", thirds())], THREADS + [("m", "c", "m", "a")]
        self.refused(Taken, {"name": "c"}, Web, machines, threads)
        self.assertEqual(machines, [("n", left()), ("m", thirds())])
        self.assertEqual(threads, THREADS + [("m", "c", "m", "a")])


class RefusedTest(RefusalCase):
    machines = [("m", thirds()), ("n", left())]

    def test_how_many_machines(self):
        self.refused(BadSize, {}, Web, [], [])
        self.refused(BadSize, {}, Web, (), [("m", "c", "out")])
        five = [(name, still("a")) for name in "vwxyz"]
        self.refused(BadSize, {}, Web, five, [])
        self.assertEqual(Web(five[:4], []).names(), ["v", "w", "x", "y"])
        self.refused(BadSize, {}, Web, [("A", still("a"))] * 5, [("none", "c", "OUT")])

    def test_names_of_machines(self):
        for name in ("", "abcdefg", "A", "a1", "a b", " ", "each-"):
            self.refused(BadName, {"name": name}, Web, [("a", still("a")), (name, still("a")), ("B", still("a"))], [])
        self.refused(BadName, {"name": "b"}, Web, [(name, still("a")) for name in "abbA"], [])
        self.refused(BadName, {"name": "a"}, Web, [("a", still("a")), ("a", still("b"))], [("none", "c", "OUT")])
        for name in ("a", "zzzzzz", "with"):
            self.assertEqual(Web([(name, still("a"))], []).names(), [name])

    def test_start_of_a_thread(self):
        for end in (("out",), ("m", "a"), ("none", "z"), ("OUT",)):
            self.refused(NoMachine, {"name": "k"}, Web, self.machines, [("k", "c") + end])
            self.refused(NoMachine, {"name": "out"}, Web, self.machines, [("m", "c", "out"), ("out", "none") + end])
            self.refused(NoOutlet, {"name": "a"}, Web, self.machines, [("m", "a") + end])
            self.refused(NoOutlet, {"name": "o"}, Web, self.machines, [("m", "o") + end])

    def test_taken(self):
        for end in (("out",), ("m", "a"), ("none", "z"), ("m", "none"), ("OUT",)):
            self.refused(Taken, {"name": "c"}, Web, self.machines, [("m", "c", "out"), ("m", "c") + end])
            threads = [("n", "p", "m", "a"), ("m", "c", "z"), ("n", "p") + end]
            self.refused(Taken, {"name": "p"}, Web, self.machines, threads)
        self.assertEqual(len(Web([("a", thirds()), ("b", thirds())], [("a", "c", "z"), ("b", "c", "z")]).threads()), 2)

    def test_end_of_a_thread(self):
        self.refused(NoMachine, {"name": "k"}, Web, self.machines, [("m", "c", "k", "a")])
        self.refused(NoMachine, {"name": "k"}, Web, self.machines, [("m", "c", "k", "none")])
        self.refused(NoMachine, {"name": "out"}, Web, self.machines, [("n", "o", "out"), ("m", "c", "out", "a")])
        self.refused(NoLetter, {"name": "c"}, Web, self.machines, [("m", "c", "m", "c")])
        self.refused(NoLetter, {"name": "a"}, Web, self.machines, [("m", "c", "n", "a")])
        for name in ("", "abcdefg", "OUT", "a1", "a b"):
            self.refused(BadName, {"name": name}, Web, self.machines, [("m", "c", name)])

    def test_thread_by_thread(self):
        bad = {
            ("k", "c", "out"): (NoMachine, "k"), ("m", "z", "out"): (NoOutlet, "z"),
            ("m", "c", "k", "a"): (NoMachine, "k"), ("m", "c", "n", "z"): (NoLetter, "z"),
            ("m", "c", "OUT"): (BadName, "OUT"),
        }
        for one, other in itertools.permutations(bad, 2):
            kind, name = bad[one]
            self.refused(kind, {"name": name}, Web, self.machines, [("n", "o", "out"), one, other])
        twice, none = ("n", "o", "out"), ("k", "c", "out")
        self.refused(Taken, {"name": "o"}, Web, self.machines, [twice, twice, none])
        self.refused(NoMachine, {"name": "k"}, Web, self.machines, [twice, none, twice])

    def test_how_many_kinds(self):
        for sizes in ((3, 3, 2), (2, 2, 2, 2), (1, 3, 1, 3), (3, 3, 1, 1)):
            machines = [("wxyz"[at], still("abc"[:size])) for at, size in enumerate(sizes)]
            self.assertEqual(len(Web(machines, [])), 8)
        for sizes in ((3, 3, 3), (3, 2, 2, 2), (3, 3, 3, 3), (1, 3, 2, 3)):
            machines = [("wxyz"[at], still("abc"[:size])) for at, size in enumerate(sizes)]
            self.refused(BadSize, {}, Web, machines, [])

    def test_how_many_doors(self):
        machines = [("a", still("a", "pqr")), ("b", still("b", "pqr"))]
        threads = [("a", "p", "one"), ("a", "q", "two"), ("a", "r", "three"), ("b", "p", "four"), ("b", "q", "one")]
        self.refused(BadSize, {}, Web, machines, threads)
        self.assertEqual(len(Web(machines, threads[:3] + threads[4:]).doors()), 3)

    def test_threads_go_ahead_of_how_many(self):
        machines = [(name, still("abc", "pqr")) for name in "wxyz"]
        doors = [("w", "p", "one"), ("w", "q", "two"), ("w", "r", "three"), ("x", "p", "four")]
        self.refused(BadSize, {}, Web, machines, doors)
        self.refused(NoLetter, {"name": "k"}, Web, machines, doors + [("x", "q", "x", "k")])
        self.refused(Taken, {"name": "p"}, Web, machines, doors + [("w", "p", "five")])
        self.refused(BadName, {"name": "Five"}, Web, machines, doors + [("z", "p", "Five")])


def slow_rate(machine, letter, outlet):
    """A letter's rate by walking from a stand that comes again until it is met again."""
    rows = machine.rows()
    place, out = machine.letters().index(letter), machine.outlets().index(outlet)
    first = samples.again_by(rows)[0]
    stand, sent, many = first, 0, 0
    while many == 0 or stand != first:
        sent += rows[stand][place][1][out]
        stand = rows[stand][place][0]
        many += 1
    return Fraction(sent, many)


def slow_square(web, goals):
    """The rates at which letters come to these goals, of each kind, going over all threads."""
    made = {goal: {kind: Fraction(0) for kind in web.kinds()} for goal in goals}
    for start, outlet, *end in web.threads():
        goal = tuple(end) if len(end) == 2 else end[0]
        for letter in web.machine(start).letters():
            if goal in made:
                made[goal][(start, letter)] += slow_rate(web.machine(start), letter, outlet)
    return [[(rate.numerator, rate.denominator) for rate in made[goal].values()] for goal in goals]


class RatesTest(unittest.TestCase):
    def test_by_hand(self):
        web = both()
        # Of m an a sends 1 c at 3, a b 2; of n (past its first stand) a y sends 2 o, an x 2 o, and neither a p.
        self.assertEqual(web.square(), [
            [(0, 1), (0, 1), (0, 1), (0, 1)],
            [(0, 1), (0, 1), (0, 1), (0, 1)],
            [(1, 3), (2, 3), (0, 1), (0, 1)],
            [(0, 1), (0, 1), (0, 1), (0, 1)],
        ])
        self.assertEqual(web.door_rates(), [[(0, 1), (0, 1), (2, 1), (2, 1)]])

    def test_rows_are_what_comes(self):
        machine = machine_by(read_rules("each 2 with a, b 3 gives c; each 3 with b gives d 2"))
        web = Web([("m", machine)], [("m", "c", "m", "b"), ("m", "d", "m", "a")])
        self.assertEqual(web.square(), [[(0, 1), (2, 3)], [(1, 2), (3, 2)]])
        self.assertEqual(web.door_rates(), [])

    def test_two_threads_to_one_goal(self):
        machine = machine_by(read_rules("each 2 with a gives c; each 3 with a gives d; each 5 with a gives e"))
        web = Web([("m", machine)], [("m", "c", "m", "a"), ("m", "d", "m", "a"), ("m", "e", "out")])
        self.assertEqual(web.square(), [[(5, 6)]])
        self.assertEqual(web.door_rates(), [[(1, 5)]])
        web = Web([("m", machine)], [("m", "c", "out"), ("m", "d", "out"), ("m", "e", "in")])
        self.assertEqual(web.square(), [[(0, 1)]])
        self.assertEqual(web.door_rates(), [[(1, 5)], [(5, 6)]])

    def test_two_machines_to_one_goal(self):
        one, other = machine_by(read_rules("each 2 with a gives c")), machine_by(read_rules("each 3 with a gives c"))
        web = Web([("p", one), ("q", other)], [("p", "c", "p", "a"), ("q", "c", "p", "a")])
        self.assertEqual(web.square(), [[(1, 2), (1, 3)], [(0, 1), (0, 1)]])
        web = Web([("p", one), ("q", other)], [("p", "c", "out"), ("q", "c", "out")])
        self.assertEqual(web.door_rates(), [[(1, 2), (1, 3)]])

    def test_outlets_without_a_thread(self):
        web = Web([("m", thirds()), ("n", left())], [])
        self.assertEqual(web.square(), [[(0, 1)] * 4] * 4)
        self.assertEqual(web.door_rates(), [])

    def test_what_is_sent_but_once_has_no_rate(self):
        machine = machine_by(read_rules("each 1 after 2 with a gives c 4 at most 6"))
        self.assertEqual(Web([("m", machine)], [("m", "c", "m", "a")]).square(), [[(0, 1)]])

    def test_like_the_slow_way(self):
        for web in made_webs(80):
            self.assertEqual(web.square(), slow_square(web, web.kinds()))
            self.assertEqual(web.door_rates(), slow_square(web, web.doors()))


class MadeTest(unittest.TestCase):
    def test_all_is_told(self):
        for web in made_webs(60):
            self.assertEqual(web.names(), sorted(web.names()))
            self.assertEqual(web.threads(), sorted(web.threads()))
            kinds = [(name, letter) for name in sorted(web.names()) for letter in web.machine(name).letters()]
            self.assertEqual(web.kinds(), kinds)
            self.assertEqual(web.doors(), sorted({thread[2] for thread in web.threads() if len(thread) == 3}))
            goals = {thread[:2]: thread[2:] if len(thread) == 4 else thread[2] for thread in web.threads()}
            for name in web.names():
                for outlet in web.machine(name).outlets():
                    self.assertEqual(web.goal(name, outlet), goals.get((name, outlet)))
            self.assertEqual(web, Web([(name, web.machine(name)) for name in web.names()], web.threads()))


if __name__ == "__main__":
    unittest.main()
