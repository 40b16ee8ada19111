"""[2] [16] Whether all work of a web ends: the papers that show it, and both judges."""

import inspect
import random
import unittest
from fractions import Fraction

from heedless.ending import counts_hold, ending, weights_hold
from heedless.machines import Machine
from heedless.order import round_of
from heedless.webs import Web
from samples import as_fraction, calm_web, heavy_web, made_webs, ring


def all_webs():
    chance = random.Random(66)
    webs = made_webs(50)
    webs += [heavy_web(chance, high) for high in (1, 2, 3, 999999) for turn in range(25)]
    webs += [calm_web(chance) for turn in range(60)]
    return webs


WEBS = all_webs()


def slow_weights_hold(web, weights):
    square = [[as_fraction(rate) for rate in row] for row in web.square()]
    kinds = range(len(square))
    return (len(weights) == len(square) and min(weights) >= 1
            and all(weights[one] > sum(weights[other] * square[other][one] for other in kinds) for one in kinds))


def slow_counts_hold(web, counts):
    square = [[as_fraction(rate) for rate in row] for row in web.square()]
    kinds = range(len(square))
    rounds = [round_of(web.machine(name), letter) for name, letter in web.kinds()]
    return (len(counts) == len(square) and min(counts) >= 0 and max(counts) > 0
            and all(Fraction(many, lap).denominator == 1 for many, lap in zip(counts, rounds))
            and all(sum(square[one][other] * counts[other] for other in kinds) >= counts[one] for one in kinds))


def has_ring(web):
    """Whether some kind may come of itself, by threads, whatever the rates."""
    square = web.square()
    ways = [{at for at in range(len(square)) if square[at][kind] != (0, 1)} for kind in range(len(square))]
    for middle in range(len(ways)):
        for kind in range(len(ways)):
            if middle in ways[kind]:
                ways[kind] = ways[kind] | ways[middle]
    return any(kind in ways[kind] for kind in range(len(ways)))


def work(web, waiting, most):
    """Turn after turn, from the first stands; how many turns were done, and whether work ended."""
    kinds = web.kinds()
    stands = {name: 0 for name in web.names()}
    for turn in range(most):
        there = [kind for kind in kinds if waiting[kind]]
        if not there:
            return turn, True
        name, letter = there[turn % len(there)]
        waiting[(name, letter)] -= 1
        machine = web.machine(name)
        stands[name], sends = machine.step(stands[name], letter)
        for outlet, many in zip(machine.outlets(), sends):
            if web.goal(name, outlet) in kinds:
                waiting[web.goal(name, outlet)] += many
    return most, not any(waiting.values())


class EndingTest(unittest.TestCase):
    def test_by_hand(self):
        self.assertEqual(ending(Web([("m", Machine(["a"], [], [[(0, ())]]))], []))[0], "ends")
        self.assertEqual(ending(ring("each 1 with a gives c"))[0], "on")
        self.assertEqual(ending(ring("each 2 with a gives c"))[0], "ends")
        self.assertEqual(ending(ring("each 2 with a gives c 2"))[0], "on")
        self.assertEqual(ending(ring("each 2 with a gives c 3"))[0], "on")
        self.assertEqual(ending(ring("each 3 with a gives c 2"))[0], "ends")
        self.assertEqual(ending(ring("each 1 with a gives c 4 at most 6"))[0], "ends")
        self.assertEqual(ending(ring("each 3 with a gives c 2", "each 2 with a gives c 3"))[0], "on")
        self.assertEqual(ending(ring("each 3 with a gives c 2", "each 5 after 12 with a gives c 4"))[0], "ends")
        self.assertEqual(ending(ring("each 6 with a gives c", "each 5 with a gives c", "each 1 with a 4 gives c 4",
                                     "each 1 with a gives c 2"))[0], "on")
        self.assertEqual(ending(ring("each 6 with a gives c", "each 6 with a gives c", "each 1 with a 4 gives c 4",
                                     "each 1 with a gives c 2"))[0], "ends")

    def test_one_of_both_and_never_both(self):
        told = {}
        for web in WEBS:
            word, paper = ending(web)
            self.assertIn(word, ("ends", "on"))
            self.assertIs(weights_hold(web, paper), word == "ends")
            self.assertIs(counts_hold(web, paper), word == "on")
            self.assertIs(slow_weights_hold(web, paper), word == "ends")
            self.assertIs(slow_counts_hold(web, paper), word == "on")
            told[(word, has_ring(web))] = told.get((word, has_ring(web)), 0) + 1
        self.assertGreater(told[("ends", True)], 15)
        self.assertGreater(told[("ends", False)], 15)
        self.assertGreater(told[("on", True)], 15)
        self.assertNotIn(("on", False), told)

    def test_kinds_of_values(self):
        for web in WEBS:
            told = ending(web)
            self.assertIs(type(told), tuple)
            self.assertIs(type(told[1]), list)
            self.assertEqual([type(number) for number in told[1]], [int] * len(web))

    def test_just_at_the_edge(self):
        # The product of the rates round a ring is 1, or just below it.
        for last, word in ((59, "on"), (58, "ends")):
            rows = [[((stand + 1) % 60, (1 if stand <= last else 0,))] for stand in range(60)]
            self.assertEqual(ending(Web([("m", Machine(["a"], ["c"], rows))], [("m", "c", "m", "a")]))[0], word)
        for more, word in ((1, "on"), (0, "ends")):
            one = Machine(["a"], ["c"], [[((stand + 1) % 60, (1 if stand else 0,))] for stand in range(60)])
            other = Machine(["a"], ["c"], [[((stand + 1) % 59, (1 if stand else 1 + more,))] for stand in range(59)])
            web = Web([("m", one), ("n", other)], [("m", "c", "n", "a"), ("n", "c", "m", "a")])
            self.assertEqual(ending(web)[0], word)
        half = Machine(["a"], ["c", "d"], [[(1, (0, 1))], [(0, (1, 0))]])
        web = Web([("m", half)], [("m", "c", "m", "a"), ("m", "d", "m", "a")])
        self.assertEqual((web.square(), ending(web)[0]), ([[(1, 1)]], "on"))

    def test_the_work_of_webs_that_end_does_end(self):
        chance = random.Random(1)
        ended = 0
        for web in WEBS:
            word, paper = ending(web)
            if word == "ends" and max(paper) < 2000:
                waiting = {kind: chance.randint(0, 3) for kind in web.kinds()}
                turns, done = work(web, waiting, 20000)
                ended += done
                self.assertTrue(done)
        self.assertGreater(ended, 30)

    def test_the_work_of_webs_that_go_on_does_go_on(self):
        # Where much is handed of the kinds that keep one another going, it never ends.
        on = 0
        for web in WEBS:
            word, paper = ending(web)
            if word == "on" and sum(paper) < 2000:
                turns, done = work(web, {kind: 2 * many + 60 for kind, many in zip(web.kinds(), paper)}, 9000)
                self.assertFalse(done)
                on += 1
        self.assertGreater(on, 15)

    def test_questions_change_nothing_and_lists_are_new(self):
        for web in WEBS[:20]:
            before = (web.names(), web.threads(), web.square())
            word, paper = ending(web)
            again = list(paper)
            weights, counts = list(paper), list(paper)
            weights_hold(web, weights)
            counts_hold(web, counts)
            self.assertEqual((weights, counts), (again, again))
            paper.append(0)
            self.assertEqual(ending(web), (word, again))
            self.assertEqual((web.names(), web.threads(), web.square()), before)

    def test_arguments(self):
        self.assertEqual(list(inspect.signature(ending).parameters), ["web"])
        self.assertEqual(list(inspect.signature(weights_hold).parameters), ["web", "weights"])
        self.assertEqual(list(inspect.signature(counts_hold).parameters), ["web", "counts"])
        web = ring("each 2 with a gives c")
        self.assertIs(weights_hold(weights=(3,), web=web), True)
        self.assertIs(counts_hold(counts=(2,), web=web), False)
        self.assertEqual(ending(web=web)[0], "ends")


class JudgesTest(unittest.TestCase):
    def test_weights_by_hand(self):
        web = ring("each 3 with a gives c 2", "each 5 with a gives c 4")
        # Each letter taken of m brings 2/3 of one to n, and each of n 4/5 of one to m.
        for weights, told in (([1, 1], True), ([3, 4], True), ([2, 3], False), ([4, 5], True), ([5, 4], False),
                              ([5, 8], False), ([40, 59], True), ([40, 60], False), ([60, 49], True), ([60, 48], False),
                              ([4, 6], False), ([6, 8], True)):
            self.assertIs(weights_hold(web, weights), told, weights)
            self.assertIs(weights_hold(web, tuple(weights)), told)

    def test_counts_by_hand(self):
        web = ring("each 3 with a gives c 2", "each 2 with a gives c 3")
        # The rounds are 3 and 2; what comes of 3k and 2k of both is 3k and 2k again.
        for counts, told in (([3, 2], True), ([6, 4], True), ([3, 0], False), ([0, 2], False), ([3, 4], False),
                             ([6, 2], False), ([0, 0], False), ([-3, -2], False), ([3, -2], False), ([9, 6], True),
                             ([300, 200], True)):
            self.assertIs(counts_hold(web, counts), told, counts)
            self.assertIs(counts_hold(web, tuple(counts)), told)
        self.assertIs(weights_hold(web, [1, 1]), False)

    def test_counts_that_are_no_multiples_of_the_rounds(self):
        web = ring("each 2 with a gives c 3")
        for many in range(-4, 9):
            self.assertIs(counts_hold(web, [many]), many in (2, 4, 6, 8))
        rows = [[((stand + 1) % 60, (2,))] for stand in range(60)]
        web = Web([("m", Machine(["a"], ["c"], rows))], [("m", "c", "m", "a")])
        self.assertEqual([many for many in range(400) if counts_hold(web, [many])], [60, 120, 180, 240, 300, 360])
        # A kind of which none is taken may have whatever round.
        web = Web([("m", Machine(["a"], ["c"], rows)), ("n", Machine(["a"], ["c"], [[(0, (1,))]]))],
                  [("n", "c", "n", "a")])
        self.assertEqual([counts_hold(web, counts) for counts in ([0, 1], [1, 1], [60, 1])], [True, False, False])

    def test_too_few_and_too_many(self):
        for web in WEBS:
            word, paper = ending(web)
            for judge in (weights_hold, counts_hold):
                for numbers in ([], paper[:-1], paper + [1], paper + [0], paper + paper, [60] * 200):
                    self.assertIs(judge(web, numbers), False)

    def test_noughts_and_numbers_below(self):
        for web in WEBS:
            for judge in (weights_hold, counts_hold):
                self.assertIs(judge(web, [0] * len(web)), False)
                self.assertIs(judge(web, [-60] * len(web)), False)
            word, paper = ending(web)
            for at in range(len(paper)):
                for number in (0, -1, -paper[at], -(10 ** 59)):
                    turned = paper[:at] + [number] + paper[at + 1:]
                    self.assertIs(weights_hold(web, turned), False)
                    self.assertIs(counts_hold(web, turned), slow_counts_hold(web, turned))

    def test_long_numbers(self):
        for web in WEBS:
            word, paper = ending(web)
            long = [number * 10 ** 30 for number in paper]
            self.assertIs(weights_hold(web, long), word == "ends")
            self.assertIs(counts_hold(web, long), word == "on")
        web = ring("each 1 with a gives c")
        self.assertIs(counts_hold(web, [10 ** 60 - 1]), True)
        web = ring("each 1 with a gives c", "each 3 with a gives c")
        self.assertIs(weights_hold(web, [10 ** 60 - 1, 10 ** 60 - 1]), False)
        self.assertIs(weights_hold(web, [10 ** 60 - 1, 10 ** 60 - 2]), True)
        self.assertIs(weights_hold(web, [10 ** 59 + 1, 3 * 10 ** 59 + 2]), False)
        self.assertIs(weights_hold(web, [3 * 10 ** 59 + 2, 10 ** 59 + 1]), True)
        self.assertIs(weights_hold(web, [3 * 10 ** 59 + 3, 10 ** 59 + 1]), False)
        self.assertIs(weights_hold(web, [10 ** 59, 10 ** 59 - 10 ** 20]), True)

    def test_like_the_slow_way(self):
        chance = random.Random(10)
        told = {}
        for web in WEBS:
            rounds = [round_of(web.machine(name), letter) for name, letter in web.kinds()]
            word, paper = ending(web)
            for turn in range(6):
                for numbers in ([number + chance.choice([-1, 0, 0, 1]) for number in paper],
                                [chance.randint(0, 9) for lap in rounds], [1 + chance.randint(0, 2) for lap in rounds],
                                [lap * chance.choice([0, 1, 2, 3]) for lap in rounds],
                                [many + lap * chance.choice([0, 0, 1]) for many, lap in zip(paper, rounds)]):
                    for judge, slow in ((weights_hold, slow_weights_hold), (counts_hold, slow_counts_hold)):
                        holds = judge(web, numbers)
                        self.assertIs(holds, slow(web, numbers))
                        told[(judge, holds)] = told.get((judge, holds), 0) + 1
                    self.assertFalse(weights_hold(web, numbers) and counts_hold(web, numbers))
        self.assertEqual(len(told), 4)
        self.assertGreater(min(told.values()), 100)


if __name__ == "__main__":
    unittest.main()
