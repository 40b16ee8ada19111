"""[2] [12] [13] Runs: letters handed, turns, work, what is told, refusals, twins, and that order is all one."""

import inspect
import random
import unittest

from heedless import runs
from heedless.errors import BadMany, NoLetter, NoMachine, NoneWaits
from heedless.machines import Machine
from heedless.rules import machine_by, read_rules
from heedless.runs import LONG, Run, first_again
from heedless.webs import Web
from samples import (LEFT, THIRDS, RefusalCase, SlowRun, books_hold, every, hand_all, made_webs, mixed_webs, ring,
                     told_of, work_all)

WEBS = mixed_webs(random.Random(12), 120)


def both():
    """A ring of two machines, with a door."""
    back = machine_by(read_rules("each 2 with x gives y 2; each 5 with x gives z"))
    return Web([("n", back), ("m", Machine(["a", "b"], ["c"], THIRDS))],
               [("m", "c", "n", "x"), ("n", "y", "m", "a"), ("n", "z", "out")])


def doubling():
    """One machine that sends itself two letters for each."""
    return Web([("m", Machine(["a"], ["c"], [[(0, (2,))]]))], [("m", "c", "m", "a")])


class HandTest(RefusalCase):
    def test_a_new_run(self):
        run = Run(both())
        self.assertEqual(told_of(run), [[0, 0], [0, 0, 0], [0, 0, 0], [0, 0, 0], [0], True, 0, "Run(0 waiting, 0 taken)"])
        self.assertEqual(run.web(), both())
        self.assertEqual((run.purse(), run.door_purse()), ([(0, 1)] * 3, [(0, 1)]))
        run = Run(doubling())
        self.assertEqual(told_of(run), [[0], [0], [0], [0], [], True, 0, "Run(0 waiting, 0 taken)"])
        self.assertEqual(run.door_purse(), [])

    def test_by_hand(self):
        run = Run(both())
        self.assertIsNone(run.hand("m", "b"))
        self.assertIsNone(run.hand("n", "x", many=4))
        self.assertEqual(told_of(run), [[0, 0], [0, 1, 4], [0, 0, 0], [0, 1, 4], [0], False, 5,
                                        "Run(5 waiting, 0 taken)"])
        run.hand("n", "x", many=1)
        self.assertEqual((run.waiting(), run.handed()), ([0, 1, 5], [0, 1, 5]))

    def test_how_many(self):
        for many in (1, 2, 998, 999):
            run = Run(both())
            run.hand("m", "a", many=many)
            self.assertEqual((run.handed(), run.waiting(), len(run)), ([many, 0, 0], [many, 0, 0], many))
        run = Run(both())
        for many in (0, -1, -999, 1000, 9999, 999999999, -999999999):
            self.refused(BadMany, {}, run.hand, "m", "a", many=many)
        self.assertEqual(run, Run(both()))

    def test_most_of_a_kind(self):
        run = Run(both())
        for turn in range(10):
            run.hand("m", "b", many=999)
        self.refused(BadMany, {}, run.hand, "m", "b", many=10)
        self.assertEqual(run.handed(), [0, 9990, 0])
        run.hand("m", "b", many=9)
        self.refused(BadMany, {}, run.hand, "m", "b")
        self.assertEqual((run.handed(), run.waiting()), ([0, 9999, 0], [0, 9999, 0]))
        # What was taken was handed all the same.
        run.work()
        self.refused(BadMany, {}, run.hand, "m", "b", many=1)
        run.hand("m", "a", many=999)
        self.assertEqual(run.handed(), [999, 9999, 0])

    def test_refusals(self):
        run = Run(both())
        for name in ("x", "", "out", "M"):
            self.refused(NoMachine, {"name": name}, run.hand, name, "a", many=0)
            self.refused(NoMachine, {"name": name}, run.hand, name, "none")
        for letter in ("x", "c", "", "A"):
            self.refused(NoLetter, {"name": letter}, run.hand, "m", letter, many=1000)
            self.refused(NoLetter, {"name": letter}, run.hand, "m", letter)
        self.assertEqual(run, Run(both()))


class TurnTest(RefusalCase):
    def test_by_hand(self):
        run = Run(both())
        run.hand("m", "b", many=2)
        self.assertIsNone(run.turn("m", "b"))
        self.assertEqual(told_of(run), [[2, 0], [0, 1, 0], [0, 1, 0], [0, 2, 0], [0], False, 1,
                                        "Run(1 waiting, 1 taken)"])
        run.turn("m", "b")
        self.assertEqual(told_of(run), [[1, 0], [0, 0, 1], [0, 2, 0], [0, 2, 0], [0], False, 1,
                                        "Run(1 waiting, 2 taken)"])
        run.hand("n", "x")
        run.turn("n", "x")
        run.turn("n", "x")
        self.assertEqual(told_of(run), [[1, 2], [2, 0, 0], [0, 2, 2], [0, 2, 1], [0], False, 2,
                                        "Run(2 waiting, 4 taken)"])
        run.work()
        self.assertEqual(told_of(run), [[0, 3], [0, 0, 0], [2, 2, 3], [0, 2, 1], [0], True, 0,
                                        "Run(0 waiting, 7 taken)"])
        run.hand("n", "x", many=2)
        run.turn("n", "x")
        run.turn("n", "x")
        self.assertEqual((run.waiting(), run.sent(), run.stands()), ([2, 0, 0], [1], [0, 5]))

    def test_what_has_no_thread_is_gone(self):
        web = Web([("m", every(1, 7))], [])
        run = Run(web)
        run.hand("m", "a", many=3)
        run.turn("m", "a")
        self.assertEqual(told_of(run), [[0], [2], [1], [3], [], False, 2, "Run(2 waiting, 1 taken)"])

    def test_two_threads_to_one_goal(self):
        machine = Machine(["a"], ["c", "d"], [[(0, (2, 3))]])
        run = Run(Web([("m", machine)], [("m", "c", "out"), ("m", "d", "out")]))
        run.hand("m", "a", many=2)
        self.assertEqual((run.work(), run.sent()), (2, [10]))
        run = Run(Web([("m", machine), ("n", every(1))], [("m", "c", "n", "a"), ("m", "d", "n", "a")]))
        run.hand("m", "a")
        run.turn("m", "a")
        self.assertEqual(run.waiting(), [0, 5])

    def test_a_ring_of_one(self):
        run = Run(doubling())
        run.hand("m", "a")
        for turn in range(1, 30):
            run.turn("m", "a")
            self.assertEqual(told_of(run), [[0], [1 + turn], [turn], [1], [], False, 1 + turn,
                                            f"Run({1 + turn} waiting, {turn} taken)"])

    def test_great_sends(self):
        machine = Machine(["a"], ["c", "d", "e"], [[(0, (999999, 999999, 999999))]])
        run = Run(Web([("m", machine)], [("m", "c", "m", "a"), ("m", "d", "m", "a"), ("m", "e", "out")]))
        run.hand("m", "a")
        self.assertEqual(run.work(), LONG)
        self.assertEqual((run.waiting(), run.sent()), ([1 + LONG * 1999997], [LONG * 999999]))
        self.assertEqual(len(run), 1 + LONG * 1999997)

    def test_refusals(self):
        run = Run(both())
        run.hand("m", "a")
        before = run.twin()
        for name in ("x", "", "out", "M"):
            self.refused(NoMachine, {"name": name}, run.turn, name, "a")
            self.refused(NoMachine, {"name": name}, run.turn, name, "none")
        for letter in ("x", "c", "", "A"):
            self.refused(NoLetter, {"name": letter}, run.turn, "m", letter)
        self.refused(NoneWaits, {"name": "m", "letter": "b"}, run.turn, "m", "b")
        self.refused(NoneWaits, {"name": "n", "letter": "x"}, run.turn, "n", "x")
        self.assertEqual(run, before)
        run.turn("m", "a")
        self.refused(NoneWaits, {"name": "m", "letter": "a"}, run.turn, "m", "a")


class WorkTest(RefusalCase):
    def three(self):
        """Three machines of one letter, none of which sends anything, with 2, 3 and 4 letters."""
        run = Run(Web([(name, every(1, 0)) for name in "abc"], []))
        return hand_all(run, [2, 3, 4])

    def test_the_first_that_waits(self):
        for most, left in ((0, [2, 3, 4]), (1, [1, 3, 4]), (2, [0, 3, 4]), (4, [0, 1, 4]), (6, [0, 0, 3]), (9, [0] * 3)):
            run = self.three()
            self.assertEqual(run.work(most=most), most)
            self.assertEqual(run.waiting(), left)
        for most in (9, 10, LONG):
            run = self.three()
            self.assertEqual((run.work(most=most), run.tally()), (9, [2, 3, 4]))
        run = self.three()
        self.assertEqual((run.work(), run.work(), run.work(most=1)), (9, 0, 0))

    def test_rows(self):
        for row, left in (([0], [1, 3, 4]), ([1], [2, 2, 4]), ([2], [2, 3, 3]), ([3], [1, 3, 4]), ([4], [2, 2, 4]),
                          ([999999999], [1, 3, 4]), ([999999998], [2, 3, 3]), ((1, 1, 1, 1), [2, 0, 3]),
                          # With two kinds that wait the places count anew.
                          ([0, 0, 0], [0, 2, 4]), ([0, 0, 1], [0, 3, 3]), ([0, 0, 3], [0, 3, 3]),
                          ([2, 2, 2, 2, 2], [1, 3, 0]), ([1, 1, 1, 3], [2, 0, 3]), ([5, 2, 999999999], [1, 3, 2])):
            run = self.three()
            self.assertEqual(run.work(most=len(row), row=row), len(row))
            self.assertEqual(run.waiting(), left, row)

    def test_a_row_shorter_than_the_work(self):
        run = self.three()
        self.assertEqual(run.work(most=5, row=[2, 1]), 5)
        self.assertEqual(run.waiting(), [0, 1, 3])
        run = self.three()
        self.assertEqual(run.work(row=[2, 1]), 9)

    def test_a_row_longer_than_the_work(self):
        run = self.three()
        self.assertEqual(run.work(most=2, row=[2] * 200), 2)
        self.assertEqual(run.waiting(), [2, 3, 2])
        self.assertEqual(run.work(row=[1] * 200), 7)
        self.assertEqual(run.work(row=[1] * 200), 0)
        self.assertEqual(self.three().work(most=0, row=(5,)), 0)

    def test_a_row_begins_anew_with_each_work(self):
        run = self.three()
        run.work(most=1, row=[2, 0])
        run.work(most=1, row=[2, 0])
        self.assertEqual(run.waiting(), [2, 3, 2])

    def test_long_work(self):
        run = Run(doubling())
        run.hand("m", "a")
        self.assertEqual((LONG, run.work()), (20000, 20000))
        self.assertEqual(run.work(most=LONG), 20000)
        self.assertEqual(run.work(most=1), 1)
        self.assertEqual((run.tally(), run.waiting()), ([40001], [40002]))

    def test_refusals(self):
        run = self.three()
        for most in (-1, -999999999, LONG + 1, 999999999):
            self.refused(BadMany, {}, run.work, most=most)
            self.refused(BadMany, {}, run.work, most=most, row=[1])
        for row in ([-1], (0, -1), [1] * 199 + [-5], [-999999999]):
            for most in (0, 1, LONG):
                self.refused(BadMany, {}, run.work, most=most, row=row)
            self.refused(BadMany, {}, run.work, row=row)
        self.assertEqual(run, self.three())

    def test_rows_are_not_changed(self):
        row = [2, 7, 1]
        self.three().work(row=row)
        self.assertEqual(row, [2, 7, 1])


class LikeSlowTest(unittest.TestCase):
    def test_hand_turn_and_work(self):
        chance = random.Random(1)
        turns = 0
        for web in WEBS:
            run, slow = Run(web), SlowRun(web)
            for deed in range(25):
                name, letter = kind = chance.choice(web.kinds())
                choice = chance.randint(0, 3)
                if choice == 0:
                    many = chance.choice([1, 2, 3, 20])
                    run.hand(name, letter, many=many)
                    slow.hand(kind, many)
                elif choice == 1:
                    most, row = chance.randint(0, 40), [chance.randint(0, 30) for k in range(chance.randint(0, 50))]
                    done = run.work(most=most, row=row)
                    self.assertEqual(done, slow.work(most, row))
                    turns += done
                elif slow.there():
                    name, letter = kind = chance.choice(slow.there())
                    run.turn(name, letter)
                    slow.turn(kind)
                self.assertEqual(told_of(run), slow.told())
                self.assertTrue(books_hold(run))
        self.assertGreater(turns, 5000)
        self.assertEqual({len(web.names()) for web in WEBS}, {1, 2, 3, 4})


def end_of(run):
    return [run.stands(), run.tally(), run.sent()]


def any_order(chance, run, most):
    """Works in any order, turn by turn or by rows, and tells how many turns were done."""
    turns = 0
    while not run.resting() and turns < most:
        if chance.random() < 0.5:
            kinds = [kind for kind, many in zip(run.web().kinds(), run.waiting()) if many]
            run.turn(*chance.choice(kinds))
            turns += 1
        else:
            turns += run.work(most=chance.randint(1, 300), row=[chance.randint(0, 7) for k in range(200)])
    return turns


class OrderTest(unittest.TestCase):
    def test_all_orders_end_alike(self):
        chance = random.Random(13)
        rings = 0
        for web in WEBS:
            counts = [chance.choice([0, 1, 2, 3, 9]) for kind in web.kinds()]
            first = hand_all(Run(web), counts)
            turns = first.work()
            if first.resting():
                rings += turns > sum(counts)
                for order in range(4):
                    run = hand_all(Run(web), counts)
                    self.assertEqual(any_order(chance, run, 30000), turns)
                    self.assertEqual(run, first)
                    self.assertEqual((end_of(run), repr(run)), (end_of(first), repr(first)))
        self.assertGreater(rings, 40)

    def test_where_one_order_does_not_end_none_does(self):
        chance = random.Random(14)
        on = 0
        for web in WEBS:
            first = hand_all(Run(web), [60] * len(web))
            if first.work() == LONG and first.work() == LONG and max(first.waiting()) < 10 ** 9:
                run = hand_all(Run(web), [60] * len(web))
                self.assertGreaterEqual(any_order(chance, run, LONG), LONG)
                on += 1
        self.assertGreater(on, 10)

    def test_letters_handed_amid_the_work(self):
        chance = random.Random(15)
        amid = 0
        for web in WEBS:
            counts = [chance.choice([0, 1, 2, 4]) for kind in web.kinds()]
            first = hand_all(Run(web), counts)
            first.work()
            if not first.resting():
                continue
            run = Run(web)
            letters = [kind for kind, many in zip(web.kinds(), counts) for k in range(many)]
            chance.shuffle(letters)
            for name, letter in letters:
                run.hand(name, letter)
                amid += run.work(most=chance.choice([0, 1, 2, 50]), row=[chance.randint(0, 7) for k in range(9)])
            work_all(run)
            self.assertEqual(run, first)
        self.assertGreater(amid, 500)


class TwinTest(RefusalCase):
    def alike(self, one, other, told):
        self.assertIs(one == other, told)
        self.assertIs(other == one, told)
        self.assertIs(one != other, not told)

    def worked(self):
        run = hand_all(Run(both()), [3, 4, 5])
        run.work(most=6)
        return run

    def test_twins_are_alike_and_go_apart(self):
        run = self.worked()
        twin = run.twin()
        self.assertIs(type(twin), Run)
        self.alike(run, twin, True)
        self.assertEqual(told_of(run), told_of(twin))
        before = told_of(run)
        twin.hand("m", "a")
        self.alike(run, twin, False)
        self.assertEqual(told_of(run), before)
        run.hand("m", "a")
        self.alike(run, twin, True)
        work_all(twin)
        self.alike(run, twin, False)
        work_all(run)
        self.alike(run, twin, True)
        run.back("n", "x", many=2)
        self.alike(run, twin, False)
        self.assertEqual(twin.handed(), [4, 4, 5])
        third = twin.twin().twin()
        twin.back("n", "x", many=2)
        self.alike(run, twin, True)
        self.alike(third, twin, False)

    def test_runs_of_one_web_have_nothing_to_do_with_one_another(self):
        web = both()
        one, other = Run(web), Run(web)
        hand_all(one, [3, 4, 5])
        one.work(most=7)
        self.assertEqual(told_of(other), told_of(Run(both())))
        self.assertEqual(web, both())

    def test_unlike_by_each_book(self):
        still = Web([("m", every(2, 0)), ("n", every(1, 0))], [])
        one, other = Run(still), Run(still)
        one.hand("m", "a", many=2)
        other.hand("m", "a", many=2)
        self.alike(one, other, True)
        one.work()
        self.alike(one, other, False)
        # The same stands and nothing waits, but the tally and what was handed is not the same.
        self.assertEqual(one.stands(), Run(still).stands())
        self.alike(one, Run(still), False)
        other.work(most=1)
        other.hand("n", "a")
        one.hand("n", "a")
        self.alike(one, other, False)

    def test_unlike_by_what_was_sent_alone(self):
        # Of these webs only what goes to the door is unlike.
        one = Run(Web([("m", Machine(["a"], ["c"], [[(0, (1,))]]))], [("m", "c", "out")]))
        other = Run(Web([("m", Machine(["a"], ["c"], [[(0, (2,))]]))], [("m", "c", "out")]))
        self.alike(one, other, False)
        one.hand("m", "a")
        other.hand("m", "a")
        one.work()
        other.work()
        self.assertEqual((one.sent(), other.sent()), ([1], [2]))
        self.alike(one, other, False)

    def test_unlike_by_the_web_alone(self):
        machine = Machine(["a"], ["c"], [[(0, (1,))]])
        self.alike(Run(Web([("m", machine)], [])), Run(Web([("n", machine)], [])), False)
        self.alike(Run(both()), Run(both()), True)

    def test_equal_to_nothing_else(self):
        run = self.worked()
        for other in (None, 0, 6, repr(run), run.web(), told_of(run), run.stands()):
            self.alike(run, other, False)

    def test_told_lists_are_new(self):
        run = self.worked()
        asks = (run.stands, run.waiting, run.tally, run.handed, run.sent, run.purse, run.door_purse, run.to_rest,
                lambda: run.comes([1, 2, 3]))
        before, twin = [ask() for ask in asks], run.twin()
        for ask in asks:
            told = ask()
            self.assertIs(type(told), list)
            told.append(7)
            told[0] = 99
        self.assertEqual([ask() for ask in asks], before)
        self.alike(run, twin, True)
        for told in run.purse() + run.door_purse():
            self.assertIs(type(told), tuple)
        told = run.web().kinds()
        told.clear()
        self.assertEqual(run.web(), both())

    def test_questions_change_nothing(self):
        run = self.worked()
        before = told_of(run)
        run.purse(), run.door_purse(), run.comes([5, 6, 7]), run.settles([5, 6, 7]), run.to_rest(), run.twin(), run.web()
        self.assertEqual(told_of(run), before)
        self.alike(run, self.worked(), True)

    def test_handed_counts_are_not_changed(self):
        run = self.worked()
        counts = [5, 6, 7]
        run.comes(counts)
        run.settles(counts)
        self.assertEqual(counts, [5, 6, 7])


class InterfaceTest(unittest.TestCase):
    def test_methods_stand_in_the_class(self):
        for name in ("web", "hand", "turn", "work", "back", "stands", "waiting", "tally", "handed", "sent", "resting",
                     "purse", "door_purse", "comes", "settles", "to_rest", "twin", "__init__", "__len__", "__eq__",
                     "__repr__"):
            self.assertIn(name, vars(Run))

    def test_arguments(self):
        self.assertEqual(str(inspect.signature(Run)), "(web)")
        self.assertEqual(str(inspect.signature(Run.hand)), "(self, machine, letter, *, many=1)")
        self.assertEqual(str(inspect.signature(Run.turn)), "(self, machine, letter)")
        self.assertEqual(str(inspect.signature(Run.work)), "(self, *, most=20000, row=())")
        self.assertEqual(str(inspect.signature(Run.back)), "(self, machine, letter, *, many=1)")
        self.assertEqual(str(inspect.signature(Run.comes)), "(self, counts)")
        self.assertEqual(str(inspect.signature(Run.settles)), "(self, counts)")
        self.assertEqual(str(inspect.signature(first_again)), "(web)")
        self.assertEqual(runs.LONG, 20000)

    def test_by_name(self):
        run = Run(web=both())
        run.hand(letter="a", many=3, machine="m")
        run.turn(letter="a", machine="m")
        self.assertEqual(run.work(row=[1], most=1), 1)
        self.assertEqual(run.comes(counts=[1, 0, 0]), [0, 0, 1])
        self.assertIs(run.settles(counts=[9, 9, 9]), True)
        work_all(run)
        run.back(letter="a", many=3, machine="m")
        self.assertEqual(run, Run(both()))
        self.assertIs(first_again(web=both()), False)

    def test_lists_or_tuples_are_one(self):
        run = hand_all(Run(both()), [3, 4, 5])
        self.assertEqual(run.comes((1, 2, 3)), run.comes([1, 2, 3]))
        self.assertIs(run.settles((30, 30, 30)), run.settles([30, 30, 30]))
        twin = run.twin()
        run.work(most=5, row=(2, 1, 2))
        twin.work(most=5, row=[2, 1, 2])
        self.assertEqual(run, twin)

    def test_kinds_of_values(self):
        for web in made_webs(20):
            run = hand_all(Run(web), [1] * len(web))
            self.assertIs(type(run.work(most=3)), int)
            self.assertIs(type(run.resting()), bool)
            self.assertIs(type(run.settles([0] * len(web))), bool)
            for told in (run.stands(), run.waiting(), run.tally(), run.handed(), run.sent()):
                self.assertEqual([type(number) for number in told], [int] * len(told))
            for told in run.purse() + run.door_purse():
                self.assertEqual([type(number) for number in told], [int, int])


class LeftTest(unittest.TestCase):
    def test_stands_that_are_left(self):
        web = Web([("m", Machine(["y", "x"], ["o", "p"], LEFT))], [("m", "o", "out"), ("m", "p", "m", "x")])
        run = Run(web)
        run.hand("m", "y")
        self.assertEqual(run.work(), 2)
        self.assertEqual(told_of(run), [[1], [0, 0], [1, 1], [1, 0], [7], True, 0, "Run(0 waiting, 2 taken)"])
        # At first 1 p goes out and never again, so the purse of p is 1 ever after.
        self.assertEqual((run.purse(), run.door_purse()), ([(0, 1), (1, 1)], [(3, 1)]))

    def test_a_ring_of_rings(self):
        run = Run(ring("each 2 with a gives c", "each 3 with a gives c 2", "each 1 with a gives c 2"))
        run.hand("m", "a", many=60)
        slow = SlowRun(run.web())
        slow.hand(("m", "a"), 60)
        self.assertEqual(run.work(), slow.work(LONG))
        self.assertEqual(told_of(run), slow.told())


if __name__ == "__main__":
    unittest.main()
