"""[21] Taking back what was handed and what was not, and webs whose first stand comes again."""

import random
import unittest

from heedless.ending import ending
from heedless.errors import BadMany, NoLetter, NoMachine, NotHanded, TooWide, Unending, Working
from heedless.machines import Machine
from heedless.runs import Run, first_again
from heedless.webs import Web
from samples import (LEFT, THIRDS, RefusalCase, begun_at, books_hold, every, hand_all, idle_rows, mixed_webs, ring, ring_rows,
                     told_of, work_all)

WEBS = mixed_webs(random.Random(21), 160)


def small(web):
    """Whether a web's work ends, and its machines have few stands."""
    product = 1
    for name in web.names():
        product *= len(web.machine(name))
    return ending(web)[0] == "ends" and product <= 400 and max(ending(web)[1]) < 3000


def begun_anew(web):
    """The web with its machines' stands numbered anew, so that the first ones come again."""
    run = hand_all(Run(web), [60] * len(web))
    work_all(run)
    machines = [(name, begun_at(web.machine(name), stand)) for name, stand in zip(web.names(), run.stands())]
    return Web(machines, web.threads())


SMALL = [web for web in WEBS if small(web)]
AGAIN = [web for web in SMALL if first_again(web)] + [begun_anew(web) for web in SMALL if not first_again(web)]


def thirds():
    """A machine all of whose stands come again, alone, with a door."""
    return Web([("m", Machine(["a", "b"], ["c"], THIRDS))], [("m", "c", "out")])


def halves():
    """A ring of two whose first stand comes again."""
    return Web([("m", Machine(["a"], ["c", "d"], [[(1, (1, 1))], [(0, (0, 0))]])),
                ("n", Machine(["a"], ["c", "d"], [[(1, (1, 0))], [(2, (0, 1))], [(0, (0, 0))]]))],
               [("m", "c", "n", "a"), ("n", "c", "m", "a"), ("m", "d", "out"), ("n", "d", "out")])


def left():
    """A machine whose first stand doesn't come again."""
    return Web([("m", Machine(["y", "x"], ["o", "p"], LEFT))], [("m", "o", "out")])


def slow_first_again(web):
    """Whether the first stands can be come to from all stands at rest, letter by letter."""
    begin = Run(web)
    found = {tuple(begin.stands()): begin}
    ahead = {}
    queue = [tuple(begin.stands())]
    for stands in queue:
        ahead[stands] = []
        for name, letter in web.kinds():
            run = found[stands].twin()
            run.hand(name, letter)
            work_all(run)
            end = tuple(run.stands())
            ahead[stands].append(end)
            if end not in found:
                found[end] = run
                queue.append(end)
    again = {queue[0]}
    grown = True
    while grown:
        grown = False
        for stands in queue:
            if stands not in again and any(end in again for end in ahead[stands]):
                again.add(stands)
                grown = True
    return len(again) == len(queue)


class FirstAgainTest(RefusalCase):
    def test_by_hand(self):
        self.assertIs(first_again(thirds()), True)
        self.assertIs(first_again(halves()), True)
        self.assertIs(first_again(left()), False)
        # Alone each third letter sends one; in a ring, once some came, no letter leads back to the first stand.
        self.assertIs(first_again(Web([("m", every(3))], [])), True)
        self.assertIs(first_again(Web([("m", every(3))], [("m", "c", "out")])), True)
        self.assertIs(first_again(ring("each 3 with a gives c")), False)
        self.assertIs(first_again(ring("each 3 with a gives c 2")), False)
        self.assertIs(first_again(Web([("m", every(1, 0))], [])), True)

    def test_letters_of_each_kind_are_among_them(self):
        # The letter a leads back to the first stand, but b never does.
        machine = Machine(["a", "b"], [], [[(0, ()), (1, ())], [(1, ()), (1, ())]])
        self.assertIs(first_again(Web([("m", machine)], [])), False)
        # Nor may one of several machines be left at another stand.
        self.assertIs(first_again(Web([("m", every(5)), ("n", machine)], [])), False)
        self.assertIs(first_again(Web([("m", every(5)), ("n", every(7))], [])), True)

    def test_like_the_slow_way(self):
        told = {True: 0, False: 0}
        for web in SMALL:
            told[first_again(web)] += 1
            self.assertIs(first_again(web), slow_first_again(web))
        self.assertGreater(min(told.values()), 12)

    def test_webs_begun_where_they_come_again(self):
        for web in AGAIN:
            self.assertIs(first_again(web), True)

    def test_unending_ahead_of_too_wide(self):
        twice = Machine(["a"], ["c"], [[((stand + 1) % 60, (2,))] for stand in range(60)])
        self.refused(Unending, {}, first_again, Web([("m", twice), ("n", twice)], [("m", "c", "m", "a")]))
        self.refused(Unending, {}, first_again, Web([("m", twice)], [("m", "c", "m", "a")]))
        self.refused(TooWide, {}, first_again, Web([("m", twice), ("n", twice)], [("m", "c", "n", "a")]))

    def test_just_four_hundred(self):
        for sizes in ((20, 20), (40, 10), (50, 8), (4, 4, 5, 5), (25, 16), (10, 10, 4), (60, 6), (60,), (57, 7)):
            self.assertIs(first_again(Web(list(zip("mnop", map(every, sizes))), [])), True)
        for sizes in ((13, 31), (20, 21), (60, 7), (60, 60, 60, 60), (51, 8), (2, 3, 60, 2), (59, 7)):
            self.refused(TooWide, {}, first_again, Web(list(zip("mnop", map(every, sizes))), []))

    def test_four_hundred_in_a_ring(self):
        machines = [("m", every(20, 19)), ("n", every(20, 20))]
        self.assertIs(first_again(Web(machines, [("m", "c", "n", "a"), ("n", "c", "m", "a")])), False)
        late = Machine(["a"], ["c"], [[((stand + 1) % 20, (19 if stand == 0 else 0,))] for stand in range(20)])
        soon = Machine(["a"], ["c"], [[((stand + 1) % 20, (20 if stand == 0 else 0,))] for stand in range(20)])
        web = Web([("m", late), ("n", soon)], [("m", "c", "n", "a"), ("n", "c", "m", "a")])
        self.assertIs(first_again(web), slow_first_again(web))

    def test_the_web_is_as_it_was(self):
        web = halves()
        first_again(web)
        self.assertEqual(web, halves())


class BackTest(RefusalCase):
    def test_by_hand(self):
        run = Run(thirds())
        hand_all(run, [4, 3])
        work_all(run)
        self.assertEqual(told_of(run)[:5], [[1], [0, 0], [4, 3], [4, 3], [3]])
        self.assertIsNone(run.back("m", "b"))
        self.assertEqual(told_of(run), [[2], [0, 0], [4, 2], [4, 2], [2], True, 0, "Run(0 waiting, 6 taken)"])
        run.back("m", "a", many=4)
        self.assertEqual(told_of(run)[:5], [[1], [0, 0], [0, 2], [0, 2], [1]])

    def test_below_nought_by_hand(self):
        run = Run(thirds())
        run.back("m", "a")
        self.assertEqual(told_of(run), [[2], [0, 0], [-1, 0], [-1, 0], [-1], True, 0, "Run(0 waiting, -1 taken)"])
        run.back("m", "b", many=2)
        self.assertEqual(told_of(run), [[1], [0, 0], [-1, -2], [-1, -2], [-2], True, 0, "Run(0 waiting, -3 taken)"])
        self.assertTrue(books_hold(run))
        run.hand("m", "b", many=2)
        self.assertEqual((run.handed(), run.waiting(), len(run)), ([-1, 0], [0, 2], 2))
        run.work()
        run.hand("m", "a")
        run.work()
        self.assertEqual(run, Run(thirds()))

    def test_in_a_ring_by_hand(self):
        # A letter of m goes to n, which sends it back, and m has then had two.
        run = Run(halves())
        run.hand("m", "a")
        self.assertEqual(run.work(), 3)
        self.assertEqual(told_of(run)[:5], [[0, 1], [0, 0], [2, 1], [1, 0], [1]])
        run.back("m", "a")
        self.assertEqual(run, Run(halves()))
        run.back("m", "a")
        again = run.twin()
        again.hand("m", "a")
        again.work()
        self.assertEqual(again, Run(halves()))
        self.assertEqual(run.handed(), [-1, 0])
        self.assertTrue(books_hold(run))

    def test_what_is_left_is_as_a_new_run(self):
        chance = random.Random(1)
        tried = 0
        for web in WEBS:
            counts = [chance.choice([0, 1, 2, 5, 30]) for kind in web.kinds()]
            run = hand_all(Run(web), counts)
            if run.work() == 20000:
                continue
            for turn in range(4):
                some = [at for at, many in enumerate(counts) if many]
                if some:
                    at = chance.choice(some)
                    many = chance.randint(1, counts[at])
                    run.back(*web.kinds()[at], many=many)
                    counts[at] -= many
                    new = hand_all(Run(web), counts)
                    work_all(new)
                    self.assertEqual(run, new)
                    self.assertEqual(told_of(run), told_of(new))
                    tried += 1
        self.assertGreater(tried, 200)

    def test_what_was_not_handed_comes_to_the_same_when_handed(self):
        chance = random.Random(2)
        tried = 0
        for web in AGAIN:
            counts = [chance.choice([0, 0, 1, 3]) for kind in web.kinds()]
            run = hand_all(Run(web), counts)
            work_all(run)
            for turn in range(4):
                at = chance.randrange(len(web))
                many = chance.choice([1, 2, 3, 10])
                before = run.twin()
                run.back(*web.kinds()[at], many=many)
                counts[at] -= many
                self.assertEqual((run.handed(), run.resting()), (counts, True))
                self.assertTrue(books_hold(run))
                again = run.twin()
                again.hand(*web.kinds()[at], many=many)
                work_all(again)
                self.assertEqual(again, before)
                tried += min(counts) < 0
        self.assertGreater(tried, 80)

    def test_one_by_one_or_many_at_once_and_in_any_order(self):
        chance = random.Random(3)
        for web in AGAIN:
            takes = [kind for kind in web.kinds() for k in range(3)]
            run = Run(web)
            for kind in web.kinds():
                run.back(*kind, many=3)
            other = Run(web)
            chance.shuffle(takes)
            for kind in takes:
                other.back(*kind)
            self.assertEqual(run, other)
            # Letters handed in between are all one, too.
            third = Run(web)
            for kind in takes:
                third.hand(*web.kinds()[0])
                work_all(third)
                third.back(*kind)
            work_all(third)
            third.back(*web.kinds()[0], many=len(takes))
            self.assertEqual(run, third)
            hand_all(run, [5] * len(web))
            work_all(run)
            new = hand_all(Run(web), [2] * len(web))
            work_all(new)
            self.assertEqual(run, new)

    def test_great_counts(self):
        run = Run(halves())
        for turn in range(10):
            run.back("m", "a", many=999)
        self.refused(BadMany, {}, run.back, "m", "a", many=10)
        self.assertEqual(run.handed(), [-9990, 0])
        run.back("m", "a", many=9)
        self.assertEqual(run.handed(), [-9999, 0])
        self.assertTrue(books_hold(run))
        before = run.twin()
        self.refused(BadMany, {}, run.back, "m", "a")
        self.assertEqual(run, before)
        run.back("n", "a", many=999)
        hand_all(run, [9999, 999])
        work_all(run)
        self.assertEqual(run, Run(halves()))
        hand_all(run, [9999, 9999])
        work_all(run)
        self.refused(BadMany, {}, run.hand, "m", "a")
        run.back("m", "a", many=999)
        run.hand("m", "a", many=999)
        work_all(run)
        self.assertEqual(run.handed(), [9999, 9999])

    def test_a_web_that_does_not_always_end(self):
        run = Run(ring("each 3 after 4 with a gives c 4"))
        run.hand("m", "a", many=6)
        run.work()
        self.refused(Unending, {}, run.back, "m", "a", many=7)
        self.assertEqual(run.handed(), [6])
        run.back("m", "a", many=4)
        self.assertEqual(told_of(run)[:5], [[2], [0], [2], [2], []])
        run.back("m", "a", many=2)
        self.assertEqual(run, Run(run.web()))
        self.refused(Unending, {}, run.back, "m", "a")

    def test_a_web_that_is_too_wide(self):
        web = Web([("m", every(13)), ("n", every(31))], [("m", "c", "n", "a")])
        run = hand_all(Run(web), [700, 9])
        work_all(run)
        self.refused(TooWide, {}, run.back, "n", "a", many=10)
        run.back("n", "a", many=9)
        run.back("m", "a", many=400)
        new = hand_all(Run(web), [300, 0])
        work_all(new)
        self.assertEqual(run, new)
        self.refused(TooWide, {}, run.back, "n", "a")
        self.assertEqual(run, new)

    def test_first_stands_that_do_not_come_again(self):
        run = Run(left())
        self.refused(NotHanded, {}, run.back, "m", "y")
        self.assertEqual(run, Run(left()))
        hand_all(run, [3, 2])
        work_all(run)
        before = run.twin()
        self.refused(NotHanded, {}, run.back, "m", "y", many=4)
        self.refused(NotHanded, {}, run.back, "m", "x", many=3)
        self.assertEqual(run, before)
        run.back("m", "y", many=3)
        run.back("m", "x", many=2)
        self.assertEqual(run, Run(left()))

    def test_idle_machines(self):
        chance = random.Random(5)
        for turn in range(20):
            machine = Machine(["a", "b"], [], idle_rows(chance, 2))
            web = Web([("m", machine), ("n", every(3))], [("n", "c", "m", "b")])
            if first_again(web):
                run = Run(web)
                run.back("n", "a", many=4)
                self.assertTrue(books_hold(run))
                run.hand("n", "a", many=4)
                run.work()
                self.assertEqual(run, Run(web))
            else:
                self.refused(NotHanded, {}, Run(web).back, "n", "a", many=4)


class RefusedTest(RefusalCase):
    def test_names(self):
        run = hand_all(Run(thirds()), [2, 2])
        before = run.twin()
        for name in ("x", "", "out"):
            self.refused(NoMachine, {"name": name}, run.back, name, "none", many=0)
        for letter in ("c", "", "A"):
            self.refused(NoLetter, {"name": letter}, run.back, "m", letter, many=1000)
        self.assertEqual(run, before)

    def test_bad_many_ahead_of_working(self):
        run = hand_all(Run(thirds()), [2, 2])
        for many in (0, -1, 1000, 999999999, -999999999):
            self.refused(BadMany, {}, run.back, "m", "a", many=many)
        work_all(run)
        for many in (0, -1, 1000, 999999999, -999999999):
            self.refused(BadMany, {}, run.back, "m", "a", many=many)
        for turn in range(10):
            run.back("m", "a", many=999)
        run.hand("m", "b")
        # Now 9988 below nought.
        self.refused(BadMany, {}, run.back, "m", "a", many=12)
        self.refused(Working, {}, run.back, "m", "a", many=11)
        self.assertEqual(run.handed(), [-9988, 3])

    def test_working_ahead_of_the_rest(self):
        twice = Machine(["a"], ["c"], [[((stand + 1) % 60, (2,))] for stand in range(60)])
        wide = Web([("m", twice), ("n", twice)], [("m", "c", "m", "a")])
        for web in (wide, Web([("m", every(60)), ("n", every(60))], []), left(), thirds()):
            run = Run(web)
            name, letter = web.kinds()[0]
            run.hand(name, letter, many=3)
            run.turn(name, letter)
            before = run.twin()
            self.refused(Working, {}, run.back, name, letter)
            self.refused(Working, {}, run.back, name, letter, many=999)
            self.refused(Working, {}, run.back, *web.kinds()[1])
            self.assertEqual(run, before)

    def test_unending_then_too_wide_then_not_handed(self):
        twice = Machine(["a"], ["c"], [[((stand + 1) % 60, (2,))] for stand in range(60)])
        lost = Machine(["a"], ["c"], [[(min(stand + 1, 59), (2,))] for stand in range(60)])
        self.refused(Unending, {}, Run(Web([("m", twice), ("n", lost)], [("m", "c", "m", "a")])).back, "n", "a")
        self.refused(TooWide, {}, Run(Web([("m", twice), ("n", lost)], [("m", "c", "n", "a")])).back, "n", "a")
        self.refused(NotHanded, {}, Run(Web([("n", lost)], [])).back, "n", "a")

    def test_just_four_hundred(self):
        run = Run(Web([("m", every(20)), ("n", every(20))], [("m", "c", "n", "a")]))
        run.back("m", "a", many=21)
        self.assertEqual(told_of(run)[:5], [[19, 18], [0, 0], [-21, -2], [-21, 0], []])
        self.assertTrue(books_hold(run))

    def test_the_first_count_below_nought_is_asked_of_any_kind(self):
        run = Run(thirds())
        run.hand("m", "b", many=5)
        run.work()
        run.back("m", "a", many=2)
        run.back("m", "b", many=2)
        self.assertEqual(told_of(run)[:5], [[1], [0, 0], [-2, 3], [-2, 3], [1]])
        self.assertTrue(books_hold(run))


class RingTest(unittest.TestCase):
    def test_machines_that_go_round(self):
        chance = random.Random(6)
        for turn in range(25):
            size = chance.randint(1, 20)
            held = [[chance.randint(0, 3), chance.randint(0, 3)] for stand in range(size)]
            rows = ring_rows(size, [1, chance.randint(0, 20)], [[3, 3], [4, 5]], held)
            web = Web([("m", Machine(["a", "b"], ["c", "d"], rows))], [("m", "c", "one"), ("m", "d", "two")])
            self.assertIs(first_again(web), True)
            run = Run(web)
            counts = [chance.randint(1, 99), chance.randint(1, 99)]
            run.back("m", "a", many=counts[0])
            run.back("m", "b", many=counts[1])
            self.assertEqual((run.handed(), run.tally()), ([-many for many in counts],) * 2)
            self.assertTrue(books_hold(run))
            # Counted from there, letters lead back to the first stand and send what was called back.
            self.assertEqual(web.machine("m").moved(counts, stand=run.stands()[0]), (0, [-many for many in run.sent()]))


if __name__ == "__main__":
    unittest.main()
