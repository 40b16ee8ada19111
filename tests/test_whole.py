"""[17] [18] A web as one machine, and that machine in the place of its parts."""

import inspect
import random
import unittest

from heedless.ending import ending
from heedless.errors import BadName, BadSize, NoLetter, NoMachine, TooWide, Unending
from heedless.machines import MOST, Machine
from heedless.rules import machine_by, read_rules
from heedless.runs import Run
from heedless.webs import Web
from heedless.whole import whole_of
from samples import THIRDS, RefusalCase, every, mixed_webs, ring, work_all

WEBS = [web for web in mixed_webs(random.Random(17), 200) if ending(web)[0] == "ends"]


def both():
    back = machine_by(read_rules("each 2 with x gives y; each 3 with x gives z"))
    return Web([("n", back), ("m", Machine(["a", "b"], ["c"], THIRDS))],
               [("m", "c", "n", "x"), ("n", "y", "m", "a"), ("n", "z", "out")])


def line(tail, size):
    """Two machines by one letter: so many stands that are left, and a ring of so many."""
    first = Machine(["a"], ["c"], [[(min(stand + 1, tail), (1,))] for stand in range(tail + 1)])
    return Web([("m", first), ("n", every(size))], [("m", "c", "n", "a"), ("n", "c", "out")])


def sending(one, other):
    """A machine that sends so many at two outlets to one door, and a second one in its ring."""
    machine = Machine(["a"], ["c", "d"], [[(0, (one, other))]])
    return Web([("m", machine)], [("m", "c", "out"), ("m", "d", "out")])


def slow_whole(web, ways):
    """Rows and letters by real work, or None where there are over 60 stands or sends beyond MOST."""
    begin = Run(web)
    found = [begin]
    rows = []
    while len(rows) < len(found):
        row = []
        for own, name, letter in ways:
            run = found[len(rows)].twin()
            before = run.sent()
            run.hand(name, letter)
            work_all(run)
            stands = [each.stands() for each in found]
            if run.stands() not in stands:
                found.append(run)
                stands.append(run.stands())
            row.append((stands.index(run.stands()), tuple(new - old for new, old in zip(run.sent(), before))))
        rows.append(row)
        if len(found) > 60 or any(many > MOST for after, sends in row for many in sends):
            return None
    return rows


class WholeTest(RefusalCase):
    def test_by_hand(self):
        # Every third letter of m goes to n; each second one there comes back as an a.
        machine = whole_of(both(), [("p", "m", "a"), ("q", "n", "x")])
        self.assertEqual((machine.letters(), machine.outlets()), (["p", "q"], ["out"]))
        self.assertEqual(machine.rows()[:3], [[(1, (0,)), (2, (0,))], [(3, (0,)), (4, (0,))], [(4, (0,)), (5, (0,))]])
        self.assertEqual(machine.rows(), slow_whole(both(), [("p", "m", "a"), ("q", "n", "x")]))

    def test_of_one_machine_it_is_that_machine(self):
        web = Web([("m", Machine(["a", "b"], ["c"], THIRDS))], [("m", "c", "out")])
        self.assertEqual(whole_of(web, [("a", "m", "a"), ("b", "m", "b")]), Machine(["a", "b"], ["out"], THIRDS))
        # Numbered as they are come to by the ways in their order.
        turned = [[(1, (0,)), (2, (0,))], [(2, (1,)), (0, (1,))], [(0, (1,)), (1, (0,))]]
        self.assertEqual(whole_of(web, [("x", "m", "b"), ("a", "m", "a")]), Machine(["x", "a"], ["out"], turned))

    def test_one_kind_as_two_ways(self):
        machine = whole_of(both(), [("b", "m", "a"), ("a", "m", "a"), ("c", "m", "b")])
        self.assertEqual(machine.letters(), ["b", "a", "c"])
        for one, other, third in machine.rows():
            self.assertEqual(one, other)
        self.assertEqual([row[1:] for row in machine.rows()], whole_of(both(), [("a", "m", "a"), ("c", "m", "b")]).rows())

    def test_no_doors(self):
        machine = whole_of(ring("each 3 with a gives c 2"), [("a", "m", "a")])
        self.assertEqual(machine, Machine(["a"], [], [[(1, ())], [(2, ())], [(2, ())]]))
        self.assertEqual(whole_of(Web([("m", every(1))], []), [("z", "m", "a")]), Machine(["z"], [], [[(0, ())]]))

    def test_doors_rise_and_nothing_sent_is_nought(self):
        machine = Machine(["a"], ["c", "d", "e"], [[(0, (1, 2, 3))]])
        web = Web([("m", machine), ("n", every(1))], [("m", "c", "z"), ("m", "d", "b"), ("m", "e", "k"), ("n", "c", "b")])
        self.assertEqual(whole_of(web, [("x", "m", "a"), ("y", "n", "a")]),
                         Machine(["x", "y"], ["b", "k", "z"], [[(0, (2, 3, 1)), (0, (1, 0, 0))]]))

    def test_like_the_slow_way(self):
        chance = random.Random(1)
        told = {"machine": 0, "wide": 0}
        for web in WEBS:
            if max(ending(web)[1]) > 3000:
                continue
            kinds = [chance.choice(web.kinds()) for k in range(chance.randint(1, 3))]
            ways = [("xyz"[at], *kind) for at, kind in enumerate(kinds)]
            rows = slow_whole(web, ways)
            if rows is None:
                self.refused(TooWide, {}, whole_of, web, ways)
                told["wide"] += 1
            else:
                machine = whole_of(web, ways)
                self.assertEqual(machine, Machine(list("xyz")[:len(ways)], web.doors(), rows))
                self.assertEqual(machine.rows(), rows)
                told["machine"] += 1
        self.assertGreater(min(told.values()), 20)

    def test_what_it_sends_is_what_the_run_sends(self):
        chance = random.Random(2)
        for web in WEBS[::2]:
            ways = [("xyz"[at], *kind) for at, kind in enumerate(chance.sample(web.kinds(), min(len(web), 2)))]
            try:
                machine = whole_of(web, ways)
            except TooWide:
                continue
            if max(ending(web)[1]) < 3000:
                counts = [chance.randint(0, 40) for way in ways]
                run = Run(web)
                for (own, name, letter), many in zip(ways, counts):
                    if many:
                        run.hand(name, letter, many=many)
                work_all(run)
                self.assertEqual(machine.moved(counts)[1], run.sent())

    def test_just_sixty_stands_and_one_more(self):
        ways = [("x", "m", "a"), ("y", "n", "a")]
        self.assertEqual(len(whole_of(Web([("m", every(20)), ("n", every(3))], []), ways)), 60)
        self.refused(TooWide, {}, whole_of, Web([("m", every(31)), ("n", every(2))], []), ways)
        self.assertEqual(len(whole_of(line(29, 31), ways[:1])), 60)
        self.refused(TooWide, {}, whole_of, line(30, 31), ways[:1])
        self.assertEqual(len(whole_of(Web([("m", every(60)), ("n", every(60))], []), ways[1:])), 60)

    def test_just_most_and_one_more(self):
        ways = [("x", "m", "a")]
        self.assertEqual(whole_of(sending(999999, 0), ways).rows(), [[(0, (999999,))]])
        self.assertEqual(whole_of(sending(500000, 499999), ways).rows(), [[(0, (MOST,))]])
        self.refused(TooWide, {}, whole_of, sending(500000, 500000), ways)
        self.refused(TooWide, {}, whole_of, sending(999999, 999999), ways)
        # Only at the third door, or only far on.
        machine = Machine(["a"], ["c", "d", "e"], [[(0, (1, 2, 600000))]])
        twice = Machine(["b"], ["f"], [[(0, (2,))]])
        threads = [("m", "c", "u"), ("m", "d", "v"), ("m", "e", "w"), ("n", "f", "m", "a")]
        web = Web([("m", machine), ("n", twice)], threads)
        self.assertEqual(whole_of(web, ways).rows(), [[(0, (1, 2, 600000))]])
        self.refused(TooWide, {}, whole_of, web, [("x", "n", "b")])
        self.refused(TooWide, {}, whole_of, web, ways + [("y", "n", "b")])
        late = Web([("m", every(40)), ("n", sending(500000, 500000).machine("m"))],
                   [("m", "c", "n", "a"), ("n", "c", "out"), ("n", "d", "out")])
        self.refused(TooWide, {}, whole_of, late, ways)

    def test_sends_beyond_all_bounds(self):
        great = Machine(["a"], ["c"], [[(0, (999999,))]])
        web = Web([(name, great) for name in "abcd"],
                  [("a", "c", "b", "a"), ("b", "c", "c", "a"), ("c", "c", "d", "a"), ("d", "c", "out")])
        self.refused(TooWide, {}, whole_of, web, [("x", "a", "a")])
        self.assertEqual(whole_of(web, [("x", "d", "a")]).rows(), [[(0, (999999,))]])
        # As much may come and go within, where it isn't sent away.
        self.assertEqual(whole_of(Web([(name, great) for name in "abcd"], web.threads()[:3]), [("x", "a", "a")]).rows(),
                         [[(0, ())]])

    def test_new_lists_and_nothing_changed(self):
        web, ways = both(), [("p", "m", "a"), ("q", "n", "x")]
        machine = whole_of(web, ways)
        self.assertIs(type(machine), Machine)
        self.assertEqual((web, ways), (both(), [("p", "m", "a"), ("q", "n", "x")]))
        ways.append(("r", "m", "b"))
        machine.rows().clear()
        self.assertEqual(machine, whole_of(web, tuple(ways[:2])))

    def test_arguments(self):
        self.assertEqual(str(inspect.signature(whole_of)), "(web, ways)")
        self.assertEqual(whole_of(ways=[("a", "m", "a")], web=line(2, 2)), whole_of(line(2, 2), [("a", "m", "a")]))


class RefusedTest(RefusalCase):
    on = ring("each 1 with a gives c")

    def test_how_many_ways(self):
        for web in (both(), self.on):
            self.refused(BadSize, {}, whole_of, web, [])
            self.refused(BadSize, {}, whole_of, web, ())
            self.refused(BadSize, {}, whole_of, web, [(name, "m", "a") for name in "wxyz"])
            self.refused(BadSize, {}, whole_of, web, [("A", "none", "none")] * 4)
            self.refused(BadSize, {}, whole_of, web, [("A", "none", "none")] * 200)

    def test_names_of_ways(self):
        for web in (both(), self.on):
            for name in ("", "abcdefg", "A", "a1", "a b"):
                self.refused(BadName, {"name": name}, whole_of, web, [("a", "m", "a"), (name, "none", "none")])
                self.refused(BadName, {"name": name}, whole_of, web, [("z", "k", "a"), (name, "m", "a"), ("B", "m", "a")])
            self.refused(BadName, {"name": "a"}, whole_of, web, [("a", "m", "a"), ("b", "m", "q"), ("a", "m", "a")])

    def test_machines_and_letters_way_by_way(self):
        for web in (both(), self.on):
            self.refused(NoMachine, {"name": "k"}, whole_of, web, [("a", "k", "q"), ("b", "m", "q")])
            self.refused(NoLetter, {"name": "q"}, whole_of, web, [("a", "m", "q"), ("b", "k", "a")])
            self.refused(NoLetter, {"name": "c"}, whole_of, web, [("a", "m", "a"), ("b", "m", "c"), ("c", "k", "a")])
            self.refused(NoMachine, {"name": "out"}, whole_of, web, [("a", "m", "a"), ("b", "out", "a")])

    def test_unending_ahead_of_too_wide(self):
        self.refused(Unending, {}, whole_of, self.on, [("a", "m", "a")])
        great = Machine(["a"], ["c", "d"], [[(0, (999999, 999999))]])
        web = Web([("m", great), ("n", every(1))], [("m", "c", "out"), ("m", "d", "out"), ("n", "c", "n", "a")])
        # Even by a way by which all work ends.
        self.refused(Unending, {}, whole_of, web, [("a", "m", "a")])
        self.refused(Unending, {}, whole_of, Web([("m", every(60)), ("n", every(60)), ("o", every(1))],
                                                 [("o", "c", "o", "a")]), [("a", "m", "a"), ("b", "n", "a")])


def outer_web(chance, inner, ways, doors):
    """Pairs (machines, threads) of a web around another one: with its parts, and with one machine for them."""
    text = "each 2 with u gives p; each 3 with u, v gives q; each 4 after 1 with v gives r"
    outer = machine_by(read_rules(text))
    ends = {}
    for door in doors:
        ends[door] = chance.choice([("top", "v"), ("far",), ("near",), None])
    back = {outlet: chance.choice([0, 1, "far", None]) for outlet in "pq"}
    parts, whole = [], []
    for thread in inner.threads():
        if len(thread) == 4:
            parts.append(thread)
        elif ends[thread[2]] is not None:
            parts.append(thread[:2] + ends[thread[2]])
    whole += [("all", door) + ends[door] for door in doors if ends[door] is not None]
    for outlet, goal in back.items():
        if goal == "far":
            parts.append(("top", outlet, "far"))
            whole.append(("top", outlet, "far"))
        elif goal is not None:
            own, name, letter = ways[goal]
            parts.append(("top", outlet, name, letter))
            whole.append(("top", outlet, "all", own))
    machines = [(name, inner.machine(name)) for name in inner.names()]
    return ((machines + [("top", outer)], parts),
            ([("all", whole_of(inner, ways)), ("top", outer)], whole))


def top_of(run):
    """The stand and the tally of the machine top."""
    return (run.stands()[run.web().names().index("top")],
            [many for (name, letter), many in zip(run.web().kinds(), run.tally()) if name == "top"])


class PlaceTest(unittest.TestCase):
    def test_in_the_place_of_its_parts(self):
        chance = random.Random(18)
        tried = 0
        for inner in WEBS:
            if len(inner) > 6 or len(inner.names()) > 3 or not inner.doors() or max(ending(inner)[1]) > 3000:
                continue
            ways = [(own, *chance.choice(inner.kinds())) for own in "st"]
            try:
                parts, whole = outer_web(chance, inner, ways, inner.doors())
            except TooWide:
                continue
            parts, whole = Web(*parts), Web(*whole)
            if ending(parts)[0] == "on":
                continue
            one, other = Run(parts), Run(whole)
            for deed in range(6):
                many = chance.randint(1, 30)
                at = chance.randint(0, 3)
                if at < 2:
                    one.hand(*ways[at][1:], many=many)
                    other.hand("all", ways[at][0], many=many)
                else:
                    one.hand("top", "uv"[at - 2], many=many)
                    other.hand("top", "uv"[at - 2], many=many)
                if chance.random() < 0.6:
                    work_all(one)
                    work_all(other)
                    self.assertEqual(dict(zip(parts.doors(), one.sent())), dict(zip(whole.doors(), other.sent())))
                    self.assertEqual(top_of(one), top_of(other))
            tried += 1
        self.assertGreater(tried, 15)

    def test_a_whole_of_a_whole(self):
        inner = Web([("m", every(2, 1, "cd")), ("n", every(3, 1, "cd"))], [("m", "c", "n", "a"), ("n", "c", "out")])
        middle = Web([("k", whole_of(inner, [("x", "m", "a")])), ("o", every(5))],
                     [("k", "out", "o", "a"), ("o", "c", "end")])
        machine = whole_of(middle, [("y", "k", "x")])
        self.assertEqual(len(machine), 30)
        self.assertEqual(machine.moved([89])[1], [2])
        self.assertEqual(machine.moved([90])[1], [3])


if __name__ == "__main__":
    unittest.main()
