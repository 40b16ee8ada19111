"""[2] [19] Machines that do the same: the least one, and counts by which others are parted."""

import inspect
import random
import unittest

import samples
from heedless.errors import Unlike
from heedless.likes import least_of, parted
from heedless.machines import Machine
from samples import LEFT, MADE, THIRDS, RefusalCase


def thirds():
    return Machine(["a", "b"], ["c"], THIRDS)


def blown_up_machines():
    """Pairs of a machine and one that does the same, with more stands or others first."""
    chance = random.Random(77)
    pairs = []
    for machine in MADE:
        for turn in range(2):
            rows = samples.blown_up(chance, machine.rows(), samples.idle_rows(chance, len(machine.letters())))
            if len(rows) <= 60:
                pairs.append((machine, Machine(machine.letters(), machine.outlets(), rows)))
    return pairs


BLOWN_UP = blown_up_machines()
ALL = MADE + [wide for machine, wide in BLOWN_UP]


class LeastTest(unittest.TestCase):
    def test_by_hand(self):
        # Stands 1 and 3 do the same, and so do 0 and 2.
        rows = [[(3, (0,))], [(2, (5,))], [(1, (0,))], [(2, (5,))]]
        least, places = least_of(Machine(["a"], ["c"], rows))
        self.assertEqual(least, Machine(["a"], ["c"], [[(1, (0,))], [(0, (5,))]]))
        self.assertEqual(places, [0, 1, 0, 1])

    def test_first_stands_that_do_not_come_again(self):
        # The first two stands send otherwise once, and the third does what the fourth does.
        rows = [[(1, (1,))], [(2, (0,))], [(3, (2,))], [(3, (2,))]]
        least, places = least_of(Machine(["a"], ["c"], rows))
        self.assertEqual(least.rows(), [[(1, (1,))], [(2, (0,))], [(2, (2,))]])
        self.assertEqual(places, [0, 1, 2, 2])

    def test_first_stand_may_do_what_a_later_one_does(self):
        rows = [[(1, (4,))], [(2, (7,))], [(1, (4,))]]
        self.assertEqual(least_of(Machine(["a"], ["c"], rows)),
                         (Machine(["a"], ["c"], [[(1, (4,))], [(0, (7,))]]), [0, 1, 0]))

    def test_without_outlets_all_stands_are_one(self):
        rows = samples.ring_rows(60, [1, 7, 0], [[], [], []], [[]] * 60)
        self.assertEqual(least_of(Machine(["a", "b", "c"], [], rows)),
                         (Machine(["a", "b", "c"], [], [[(0, ()), (0, ()), (0, ())]]), [0] * 60))

    def test_numbered_as_they_are_come_to(self):
        rows = samples.renumbered(THIRDS, [0, 2, 1])
        self.assertNotEqual(rows, THIRDS)
        self.assertEqual(least_of(Machine(["a", "b"], ["c"], rows)), (thirds(), [0, 2, 1]))
        # By the letters in their order, not by their names.
        rows = [[(2, (0,)), (1, (0,))], [(0, (1,)), (2, (0,))], [(1, (1,)), (0, (1,))]]
        least, places = least_of(Machine(["b", "a"], ["c"], rows))
        self.assertEqual(places, [0, 2, 1])
        self.assertEqual(least.letters(), ["b", "a"])

    def test_unlike_only_far_away(self):
        # Only the last of 60 stands sends anything.
        rows = [[(min(stand + 1, 59), (1 if stand == 59 else 0,))] for stand in range(60)]
        machine = Machine(["a"], ["c"], rows)
        self.assertEqual(least_of(machine), (machine, list(range(60))))

    def test_fewest_stands(self):
        for machine in ALL:
            rows = machine.rows()
            unlike = samples.unlike_pairs(rows)
            least, places = least_of(machine)
            self.assertEqual((type(least), type(places)), (Machine, list))
            self.assertEqual((least.letters(), least.outlets()), (machine.letters(), machine.outlets()))
            self.assertEqual(len(places), len(rows))
            for one in range(len(rows)):
                for other in range(len(rows)):
                    self.assertEqual(places[one] != places[other], (one, other) in unlike)
            self.assertEqual(set(places), set(range(len(least))))
            self.assertEqual(places[0], 0)
            for stand, row in enumerate(rows):
                self.assertEqual(least.rows()[places[stand]], [(places[after], sends) for after, sends in row])
            self.assertEqual(samples.come_to(least.rows()), list(range(len(least))))

    def test_same_sends_from_each_stand(self):
        chance = random.Random(3)
        for machine in ALL:
            least, places = least_of(machine)
            for turn in range(10):
                stand = chance.randrange(len(machine))
                counts = [chance.randint(0, 70) for letter in machine.letters()]
                end, sent = machine.moved(counts, stand=stand)
                self.assertEqual(least.moved(counts, stand=places[stand]), (places[end], sent))

    def test_least_of_the_least(self):
        for machine in ALL:
            least = least_of(machine)[0]
            self.assertEqual(least_of(least), (least, list(range(len(least)))))

    def test_blown_up_ones_have_one_least(self):
        grown = [(machine, wide) for machine, wide in BLOWN_UP if len(wide) > len(machine)]
        self.assertGreater(len(grown), 40)
        for machine, wide in BLOWN_UP:
            self.assertEqual(least_of(wide)[0], least_of(machine)[0])

    def test_nothing_is_changed_and_lists_are_new(self):
        machine = Machine(["a"], ["c"], [[(1, (4,))], [(2, (7,))], [(1, (4,))]])
        before = machine.rows()
        least, places = least_of(machine)
        places.append(9)
        least.rows()[0].clear()
        self.assertEqual(machine.rows(), before)
        self.assertEqual(least_of(machine)[1], [0, 1, 0])

    def test_arguments(self):
        self.assertEqual(list(inspect.signature(least_of).parameters), ["machine"])
        self.assertEqual(list(inspect.signature(parted).parameters), ["one", "other"])
        self.assertEqual(least_of(machine=thirds()), (thirds(), [0, 1, 2]))
        self.assertIsNone(parted(other=thirds(), one=thirds()))


def slow_parted(one, other, bound):
    """The least counts of up to so many letters that send unlike, all being tried in their order."""
    for many in range(bound + 1):
        for counts in samples.counts_of(len(one.letters()), many):
            if one.moved(counts)[1] != other.moved(counts)[1]:
                return counts
    return None


class PartedTest(RefusalCase):
    def test_by_hand(self):
        other = Machine(["a", "b"], ["c"], [[(0, (1,)), (0, (2,))]])
        self.assertEqual(parted(thirds(), other), [0, 1])
        silent = Machine(["a", "b"], ["c"], [[(0, (0,)), (0, (0,))]])
        # Two letters: b and b, b and a, but not a and a; the list [0, 2] is less than [1, 1].
        self.assertEqual(parted(thirds(), silent), [0, 2])
        only = Machine(["a", "b"], ["c"], [[(1, (0,)), (0, (0,))], [(2, (0,)), (1, (0,))], [(0, (1,)), (2, (0,))]])
        self.assertEqual(parted(only, silent), [3, 0])

    def test_fewer_letters_go_ahead_of_the_list(self):
        # One sends at its first a, the other at its third b: [1, 0] has fewer letters, [0, 3] is less as a list.
        silent = Machine(["a", "b"], ["c"], [[(0, (0,)), (0, (0,))]])
        rows = [[(min(stand // 4 * 4 + 4, 4) + stand % 4, (1 if stand < 4 else 0,)),
                 (stand // 4 * 4 + min(stand % 4 + 1, 3), (1 if stand % 4 == 2 else 0,))] for stand in range(8)]
        machine = Machine(["a", "b"], ["c"], rows)
        self.assertEqual(machine.moved([0, 3])[1], [1])
        self.assertEqual(parted(machine, silent), [1, 0])
        self.assertEqual(parted(silent, machine), [1, 0])

    def test_none_where_they_do_the_same(self):
        for machine, wide in BLOWN_UP:
            self.assertIsNone(parted(machine, wide))
            self.assertIsNone(parted(wide, machine))
            self.assertIsNone(parted(wide, least_of(machine)[0]))

    def test_long_counts(self):
        chain = [[(min(stand + 1, 59), (0,))] for stand in range(60)]
        one = Machine(["a"], ["c"], chain)
        other = Machine(["a"], ["c"], chain[:59] + [[(59, (1,))]])
        self.assertEqual(parted(one, other), [60])
        # Laps of 59 and of 60, both sending at the first letter of each lap.
        late = [Machine(["a"], ["c"], [[((stand + 1) % size, (int(stand == 0),))] for stand in range(size)])
                for size in (59, 60)]
        self.assertEqual(parted(*late), [60])

    def test_long_counts_of_pairs_that_go_round(self):
        # The other goes round six times before the one sends anything.
        rows = [[((stand + 1) % 56, (int(stand == 55),))] for stand in range(56)]
        silent = Machine(["a"], ["c"], [[((stand + 1) % 9, (0,))] for stand in range(9)])
        self.assertEqual(parted(Machine(["a"], ["c"], rows), silent), [56])

    def test_like_the_slow_way(self):
        chance = random.Random(31)
        found = {}
        groups = {}
        for machine in ALL:
            if len(machine) <= 20:
                groups.setdefault((len(machine.letters()), len(machine.outlets())), []).append(machine)
        for (letters, outlets), group in groups.items():
            for turn in range(60):
                one, other = chance.choice(group), chance.choice(group)
                other = Machine(one.letters(), one.outlets(), other.rows())
                told = parted(one, other)
                self.assertEqual(parted(other, one), told)
                if told is None:
                    self.assertEqual(least_of(one)[0], least_of(other)[0])
                    self.assertIsNone(slow_parted(one, other, 6))
                else:
                    self.assertIs(type(told), list)
                    self.assertNotEqual(least_of(one)[0], least_of(other)[0])
                    self.assertEqual(told, slow_parted(one, other, sum(told)))
                    found[sum(told)] = True
        self.assertGreater(len(found), 3)

    def test_one_send_turned_in_a_ring(self):
        # Sends that are turned at one stand of a ring part it only where that stand is come to.
        chance = random.Random(8)
        for turn in range(60):
            size = chance.randint(2, 9)
            letters = chance.randint(1, 3)
            steps = [chance.randint(0, size) for k in range(letters - 1)] + [1]
            held = [[0] for stand in range(size)]
            one = Machine(list("xyz")[:letters], ["c"], samples.ring_rows(size, steps, [[3]] * letters, held))
            held[chance.randrange(1, size)] = [2]
            other = Machine(list("xyz")[:letters], ["c"], samples.ring_rows(size, steps, [[3]] * letters, held))
            self.assertEqual(parted(one, other), slow_parted(one, other, 12))
            self.assertIsNotNone(parted(one, other))

    def test_unlike(self):
        two = Machine(["a", "b"], ["c", "d"], LEFT)
        for other in (Machine(["b", "a"], ["c", "d"], LEFT), Machine(["a", "b"], ["d", "c"], LEFT),
                      Machine(["a", "z"], ["c", "d"], LEFT), Machine(["a", "b"], ["c", "z"], LEFT), thirds(),
                      Machine(["a"], ["c", "d"], [[(0, (0, 0))]])):
            self.refused(Unlike, {}, parted, two, other)
            self.refused(Unlike, {}, parted, other, two)

    def test_nothing_is_changed_and_lists_are_new(self):
        one, other = thirds(), Machine(["a", "b"], ["c"], [[(0, (1,)), (0, (2,))]])
        parted(one, other).append(7)
        self.assertEqual(parted(one, other), [0, 1])
        self.assertEqual((one, other.rows()), (thirds(), [[(0, (1,)), (0, (2,))]]))


if __name__ == "__main__":
    unittest.main()
