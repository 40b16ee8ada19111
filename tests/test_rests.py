"""[14] [15] [16] What comes, what settles, the turns till rest, the books of a run, and what ending tells of work."""

import itertools
import random
import unittest
from fractions import Fraction

from heedless.ending import ending
from heedless.errors import BadCounts, Unending
from heedless.machines import Machine
from heedless.order import coming_again, purses_of
from heedless.rules import machine_by, read_rules
from heedless.runs import LONG, Run
from heedless.webs import Web
from samples import (LEFT, MADE, THIRDS, RefusalCase, as_fraction, books_hold, every, hand_all, mixed_webs, ring,
                     told_of, walk, work_all)

WEBS = mixed_webs(random.Random(14), 120)
ENDING = [web for web in WEBS if ending(web)[0] == "ends"]
GOING_ON = [web for web in WEBS if ending(web)[0] == "on"]


def both():
    back = machine_by(read_rules("each 2 with x gives y 2; each 5 with x gives z"))
    return Web([("n", back), ("m", Machine(["a", "b"], ["c"], THIRDS))],
               [("m", "c", "n", "x"), ("n", "y", "m", "a"), ("n", "z", "out")])


def amid(chance, web, most=9):
    """A run amid its work."""
    run = hand_all(Run(web), [chance.choice([0, 1, 2, most]) for kind in web.kinds()])
    run.work(most=chance.randint(0, 60), row=[chance.randint(0, 7) for k in range(60)])
    return run


def slow_comes(run, counts):
    """What would come to each kind, letter by letter."""
    web = run.web()
    came = {kind: 0 for kind in web.kinds()}
    for name, stand in zip(web.names(), run.stands()):
        machine = web.machine(name)
        places = [machine.letters().index(letter) for (owner, letter), many in zip(web.kinds(), counts)
                  if owner == name for k in range(many)]
        end, sent = walk(machine.rows(), stand, places)
        for outlet, many in zip(machine.outlets(), sent):
            if web.goal(name, outlet) in came:
                came[web.goal(name, outlet)] += many
    return list(came.values())


class ComesTest(RefusalCase):
    def test_by_hand(self):
        run = Run(both())
        for counts, come in (([0, 0, 0], [0, 0, 0]), ([2, 0, 0], [0, 0, 0]), ([3, 0, 0], [0, 0, 1]),
                             ([1, 1, 0], [0, 0, 1]), ([0, 3, 0], [0, 0, 2]), ([0, 0, 1], [0, 0, 0]),
                             ([0, 0, 2], [2, 0, 0]), ([4, 1, 5], [4, 0, 2])):
            self.assertEqual(run.comes(counts), come)
        # From the present stands, whether or not letters wait.
        run.hand("m", "a", many=2)
        self.assertEqual(run.comes([1, 0, 0]), [0, 0, 0])
        run.work()
        self.assertEqual(run.comes([1, 0, 0]), [0, 0, 1])
        self.assertEqual(run.comes([1, 0, 1]), [0, 0, 1])

    def test_settles_by_hand(self):
        run = Run(both())
        self.assertIs(run.settles([0, 0, 0]), True)
        self.assertIs(run.settles([2, 0, 0]), True)
        self.assertIs(run.settles([3, 0, 0]), False)
        self.assertIs(run.settles([3, 0, 1]), True)
        self.assertIs(run.settles([3, 0, 2]), True)
        self.assertIs(run.settles([1, 0, 2]), False)
        run.hand("m", "a", many=3)
        self.assertIs(run.settles([2, 0, 1]), False)
        self.assertIs(run.settles([3, 0, 0]), False)
        self.assertIs(run.settles([3, 0, 1]), True)
        run.turn("m", "a")
        self.assertIs(run.settles([3, 0, 1]), True)
        self.assertIs(run.settles([2, 0, 1]), True)
        self.assertIs(run.settles([2, 0, 0]), False)
        self.assertIs(run.settles([1, 0, 1]), False)

    def test_like_the_slow_way(self):
        chance = random.Random(2)
        told = {True: 0, False: 0}
        for web in WEBS:
            run = amid(chance, web, most=4)
            for turn in range(8):
                counts = [chance.choice([0, 1, 2, 7, 40]) for kind in web.kinds()]
                come = slow_comes(run, counts)
                self.assertEqual(run.comes(counts), come)
                settled = all(wait + more <= many for wait, more, many in zip(run.waiting(), come, counts))
                self.assertIs(run.settles(counts), settled)
                told[settled] += 1
        self.assertGreater(min(told.values()), 50)

    def test_great_counts(self):
        run = Run(both())
        self.assertEqual(run.comes([999999999, 0, 0]), [0, 0, 333333333])
        self.assertEqual(run.comes([999999998, 999999999, 999999999]), [999999998, 0, (999999998 + 1999999998) // 3])
        self.assertIs(run.settles([999999999, 0, 333333333]), True)
        self.assertIs(run.settles([999999999, 0, 333333332]), False)

    def test_refusals(self):
        run = hand_all(Run(both()), [1, 2, 3])
        before = run.twin()
        for counts in ([], [1], [1, 2], [1, 2, 3, 4], [-1, 0, 0], (0, 0, -1), [9, -999999999, 9], [-1] * 200):
            self.refused(BadCounts, {}, run.comes, counts)
            self.refused(BadCounts, {}, run.settles, counts)
        self.assertEqual(run, before)


class ToRestTest(RefusalCase):
    def test_by_hand(self):
        run = Run(both())
        self.assertEqual(run.to_rest(), [0, 0, 0])
        run.hand("m", "b", many=2)
        self.assertEqual(run.to_rest(), [0, 2, 1])
        run.turn("m", "b")
        self.assertEqual(run.to_rest(), [0, 1, 1])
        run.hand("n", "x")
        self.assertEqual(run.to_rest(), [2, 1, 3])
        run.work()
        self.assertEqual((run.to_rest(), run.tally()), ([0, 0, 0], [2, 2, 3]))

    def test_the_work_does_just_so_many(self):
        chance = random.Random(3)
        worked = 0
        for web in ENDING:
            run = amid(chance, web)
            told = run.to_rest()
            self.assertIs(run.settles(told), True)
            if sum(told) < 40000:
                worked += 1
                before = run.tally()
                self.assertEqual(work_all(run), sum(told))
                self.assertEqual([late - early for late, early in zip(run.tally(), before)], told)
        self.assertGreater(worked, 60)

    def test_no_counts_that_settle_are_less_anywhere(self):
        chance = random.Random(4)
        tried = 0
        for web in ENDING:
            run = amid(chance, web, most=3)
            told = run.to_rest()
            if len(web) <= 3 and sum(told) < 40:
                for counts in itertools.product(*[range(many + 3) for many in told]):
                    if run.settles(counts):
                        self.assertTrue(all(many >= least for many, least in zip(counts, told)), (counts, told))
                        tried += 1
            for turn in range(10):
                counts = [max(0, many + chance.choice([-9, -1, 0, 0, 1, 9])) for many in told]
                if run.settles(counts):
                    self.assertTrue(all(many >= least for many, least in zip(counts, told)))
                    tried += 1
        self.assertGreater(tried, 200)

    def test_it_lessens_with_each_turn(self):
        chance = random.Random(5)
        for web in ENDING[::3]:
            run = amid(chance, web, most=5)
            told = run.to_rest()
            for turn in range(20):
                kinds = [at for at, many in enumerate(run.waiting()) if many]
                if kinds:
                    at = chance.choice(kinds)
                    run.turn(*web.kinds()[at])
                    told[at] -= 1
                    self.assertEqual(run.to_rest(), told)

    def test_where_any_counts_settle_the_work_ends(self):
        # Of a web whose work doesn't always end: with few letters it does.
        run = Run(ring("each 3 with a gives c 4"))
        run.hand("m", "a", many=2)
        self.assertIs(run.settles([2]), True)
        self.assertEqual((run.work(), run.resting()), (2, True))
        run.hand("m", "a", many=7)
        self.assertFalse(any(run.settles([many]) for many in range(2000)))
        self.assertEqual(run.work(), LONG)

    def test_more_turns_than_could_be_done(self):
        # Each letter of a brings 999999 to b, each of b as many to c, and of c one in 60 to d.
        great = Machine(["a"], ["c"], [[(0, (999999,))]])
        web = Web([("a", great), ("b", great), ("c", every(60)), ("d", every(1, 0))],
                  [("a", "c", "b", "a"), ("b", "c", "c", "a"), ("c", "c", "d", "a")])
        run = Run(web)
        run.hand("a", "a", many=999)
        self.assertEqual(run.to_rest(), [999, 999 * 999999, 999 * 999999 ** 2, 999 * 999999 ** 2 // 60])

    def test_rings_that_all_but_go_on(self):
        # Each letter of a brings 215999 to b, of which one in 60 * 60 * 60 comes back to a.
        web = Web([("a", every(1, 215999)), ("b", every(60)), ("c", every(60)), ("d", every(60))],
                  [("a", "c", "b", "a"), ("b", "c", "c", "a"), ("c", "c", "d", "a"), ("d", "c", "a", "a")])
        run = Run(web)
        run.hand("a", "a", many=2)
        # The first letter leaves 215999 behind; the second one brings a letter back until none are left.
        told = [216001, 216001 * 215999, 216001 * 215999 // 60, 216001 * 215999 // 3600]
        self.assertEqual(run.to_rest(), told)
        self.assertIs(run.settles(told), True)
        for at in range(4):
            self.assertIs(run.settles(told[:at] + [told[at] - 1] + told[at + 1:]), False)
        for many in (863999, 863990, 800000):
            run = Run(Web([("a", every(60, many)), ("b", every(60)), ("c", every(60)), ("d", every(4))], web.threads()))
            hand_all(run, [61] * 4)
            told = run.to_rest()
            self.assertIs(run.settles(told), True)
            self.assertEqual(sum(told) > 10 ** 6, True)

    def test_unending(self):
        chance = random.Random(6)
        for web in GOING_ON:
            self.refused(Unending, {}, Run(web).to_rest)
            run = amid(chance, web)
            before = told_of(run)
            self.refused(Unending, {}, run.to_rest)
            self.assertEqual(told_of(run), before)
        self.assertGreater(len(GOING_ON), 15)


class BooksTest(unittest.TestCase):
    def test_by_hand(self):
        run = Run(both())
        run.hand("m", "a", many=2)
        run.hand("n", "x", many=2)
        run.work()
        # m stands at 1 and owes 1/3 of a letter c, n at 3 and owes 1 of y and 3/5 of z.
        self.assertEqual((run.stands(), run.tally()), ([1, 3], [4, 0, 3]))
        self.assertEqual((run.purse(), run.door_purse()), ([(-1, 1), (0, 1), (-1, 3)], [(-3, 5)]))
        self.assertTrue(books_hold(run))

    def test_two_threads_to_one_goal(self):
        machine = machine_by(read_rules("each 2 with a gives c; each 3 with a gives d; each 5 with a gives e"))
        run = Run(Web([("m", machine)], [("m", "c", "m", "a"), ("m", "d", "out"), ("m", "e", "out")]))
        run.hand("m", "a")
        run.turn("m", "a")
        self.assertEqual((run.purse(), run.door_purse()), ([(-1, 2)], [(-8, 15)]))

    def test_purses_of_the_present_stands(self):
        chance = random.Random(7)
        for web in WEBS:
            run = amid(chance, web)
            held = {goal: Fraction(0) for goal in web.kinds() + web.doors()}
            for name, stand in zip(web.names(), run.stands()):
                machine = web.machine(name)
                for outlet, purse in zip(machine.outlets(), purses_of(machine)[stand]):
                    if web.goal(name, outlet) is not None:
                        held[web.goal(name, outlet)] += as_fraction(purse)
            pairs = [(purse.numerator, purse.denominator) for purse in held.values()]
            self.assertEqual(run.purse() + run.door_purse(), pairs)
            self.assertEqual(len(run.purse()), len(web))

    def test_behind_hand_turn_and_work(self):
        chance = random.Random(8)
        for web in WEBS:
            run = Run(web)
            self.assertTrue(books_hold(run))
            for deed in range(8):
                run.hand(*chance.choice(web.kinds()), many=chance.choice([1, 2, 30, 999]))
                self.assertTrue(books_hold(run))
                run.work(most=chance.randint(0, 90), row=[chance.randint(0, 9) for k in range(90)])
                self.assertTrue(books_hold(run))
                if not run.resting():
                    waits = [kind for kind, many in zip(web.kinds(), run.waiting()) if many]
                    run.turn(*chance.choice(waits))
                    self.assertTrue(books_hold(run))


def weighed_gain(web, weights):
    """For each kind its weight less the weights of what comes of it at its rates."""
    square = [[as_fraction(rate) for rate in row] for row in web.square()]
    kinds = range(len(square))
    return [weights[one] - sum(weights[other] * square[other][one] for other in kinds) for one in kinds]


class EndingTest(unittest.TestCase):
    def test_weights_bound_the_work(self):
        # What is weighed of the tally is at most what was handed and the purses of some stands weigh.
        chance = random.Random(16)
        for web in ENDING:
            word, weights = ending(web)
            gain = weighed_gain(web, weights)
            most = Fraction(0)
            for name in web.names():
                machine = web.machine(name)
                goals = [web.goal(name, outlet) for outlet in machine.outlets()]
                most += max(sum(as_fraction(purse) * weights[web.kinds().index(goal)]
                                for purse, goal in zip(purses, goals) if goal in web.kinds())
                            for purses in purses_of(machine))
            run = amid(chance, web)
            bound = sum(weight * many for weight, many in zip(weights, run.handed())) + most
            for turn in range(3):
                self.assertLessEqual(sum(each * many for each, many in zip(gain, run.tally())), bound)
                run.work(most=500)
            told = [many + more for many, more in zip(run.tally(), run.to_rest())]
            self.assertLessEqual(sum(each * many for each, many in zip(gain, told)), bound)

    def test_counts_are_of_work_that_never_ends(self):
        tried = 0
        for web in GOING_ON:
            word, counts = ending(web)
            if max(counts) > 5000:
                continue
            # So many ahead that all machines stand where they come again, and counts can be taken in full.
            run = hand_all(Run(web), [many + 130 for many in counts])
            for name, letter in web.kinds():
                for turn in range(60):
                    run.turn(name, letter)
            for name, stand in zip(web.names(), run.stands()):
                self.assertIn(stand, coming_again(web.machine(name)))
            stands, waits = run.stands(), run.waiting()
            for (name, letter), many in zip(web.kinds(), counts):
                for turn in range(many):
                    run.turn(name, letter)
            self.assertEqual(run.stands(), stands)
            self.assertTrue(all(late >= early for late, early in zip(run.waiting(), waits)))
            self.assertEqual(run.work(), LONG)
            tried += 1
        self.assertGreater(tried, 12)


class AllMachinesTest(unittest.TestCase):
    def test_each_machine_alone(self):
        # Without rings the turns till rest are what was handed, and the door gets what the machine sends.
        chance = random.Random(9)
        for machine in MADE + [Machine(["y", "x"], ["o", "p"], LEFT)]:
            threads = [("m", outlet, outlet) for outlet in machine.outlets()]
            run = Run(Web([("m", machine)], threads))
            counts = [chance.randint(0, 90) for letter in machine.letters()]
            hand_all(run, counts)
            self.assertEqual(run.to_rest(), counts)
            work_all(run)
            stand, sent = machine.moved(counts)
            self.assertEqual(run.stands(), [stand])
            self.assertEqual(dict(zip(run.web().doors(), run.sent())), dict(zip(machine.outlets(), sent)))


if __name__ == "__main__":
    unittest.main()
