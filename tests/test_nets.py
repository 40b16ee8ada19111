"""[20] [22] Nets: counts below nought too, what moves nothing, the box, and stands with two backs."""

import inspect
import itertools
import random
import unittest
from fractions import Fraction

import samples
from heedless.errors import BadCounts, Gone, NoStand
from heedless.machines import Machine
from heedless.nets import box_of, moved_by, moves_nothing, net_of, unlike_backs
from heedless.order import coming_again, purses_of, rates_of, round_of
from samples import LEFT, MADE, THIRDS, RefusalCase, as_fraction, begun_at, ring_rows


def thirds():
    return Machine(["a", "b"], ["c"], THIRDS)


def left():
    return Machine(["a", "b"], ["c", "d"], LEFT)


def wheels(sizes, steps, many=()):
    """A machine of several wheels that turn at once, each letter each of them by its steps; it sends as told."""
    found = [(0,) * len(sizes)]
    rows = []
    for spot in found:
        row = []
        for place, step in enumerate(steps):
            end = tuple((at + by) % size for at, by, size in zip(spot, step, sizes))
            if end not in found:
                found.append(end)
            row.append((found.index(end), (many[place],) if many else ()))
        rows.append(row)
    return Machine(list("abc")[:len(steps)], ["s"] if many else [], rows)


def net_machines():
    """Machines whose nets are of all sorts."""
    chance = random.Random(20)
    machines = MADE + [thirds(), left()]
    for turn in range(60):
        letters = chance.randint(1, 3)
        sizes = chance.choice([(4, 6), (2, 2, 3), (12,), (2, 4), (3, 3), (5, 2), (2, 3, 5), (6, 6), (60,), (4, 15)])
        steps = [[chance.randint(0, size - 1) for size in sizes] for letter in range(letters)]
        machines.append(wheels(sizes, steps, [chance.randint(0, 9) for letter in steps]))
    return machines


ALL = net_machines()


def back_steps(machine):
    """For each stand that comes again and each letter the stand from which the letter leads there."""
    rows, again = machine.rows(), samples.again_by(machine.rows())
    return {(rows[stand][place][0], place): stand for stand in again for place in range(len(machine.letters()))}


def slow_moved(machine, counts, stand):
    """Letter by letter, there and back."""
    rows, backs = machine.rows(), back_steps(machine)
    sent = [0] * len(machine.outlets())
    for place, many in enumerate(counts):
        for turn in range(many):
            stand, sends = rows[stand][place]
            sent = [have + more for have, more in zip(sent, sends)]
        for turn in range(-many):
            stand = backs[(stand, place)]
            sent = [have - more for have, more in zip(sent, rows[stand][place][1])]
    return stand, sent


class NetTest(unittest.TestCase):
    def test_by_hand(self):
        # Two letters a come to what a b does.
        self.assertEqual(net_of(thirds()), [[3, 0], [1, 1]])
        self.assertEqual(box_of(thirds()), 3)
        # Past the first stand a letter a goes to and fro, a b stays.
        self.assertEqual(net_of(left()), [[2, 0], [0, 1]])
        self.assertEqual(box_of(left()), 2)
        self.assertEqual(net_of(Machine(["a", "b", "c"], [], [[(0, ())] * 3])), [[1, 0, 0], [0, 1, 0], [0, 0, 1]])
        self.assertEqual(net_of(wheels([2, 3], [(1, 0), (0, 1), (1, 1)])), [[2, 0, 0], [0, 3, 0], [1, 2, 1]])
        self.assertEqual(net_of(wheels([12], [(4,), (3,), (2,)])), [[3, 0, 0], [0, 4, 0], [1, 2, 1]])
        self.assertEqual(net_of(wheels([12], [(6,), (9,), (4,)])), [[2, 0, 0], [1, 2, 0], [0, 0, 3]])
        self.assertEqual(box_of(wheels([12], [(6,), (9,), (4,)])), 12)

    def test_the_box_is_how_many_come_again(self):
        sizes = set()
        for machine in ALL:
            net = net_of(machine)
            box = 1
            for at, row in enumerate(net):
                box *= row[at]
            self.assertEqual(box_of(machine), box)
            self.assertEqual(box, len(coming_again(machine)))
            sizes.add(box)
        self.assertTrue({1, 2, 60} <= sizes)

    def test_rows_are_as_told(self):
        for machine in ALL:
            net, letters = net_of(machine), machine.letters()
            self.assertEqual(len(net), len(letters))
            for at, row in enumerate(net):
                self.assertEqual(len(row), len(letters))
                self.assertGreater(row[at], 0)
                self.assertEqual(row[at + 1:], [0] * (len(letters) - at - 1))
                for ahead in range(at):
                    self.assertTrue(0 <= row[ahead] < net[ahead][ahead])
            self.assertEqual(net[0][0], round_of(machine, letters[0]))

    def test_own_counts_are_the_least(self):
        # Of all counts below the rounds, by walking, from each stand that comes again.
        for machine in ALL:
            rows, again, net = machine.rows(), samples.again_by(machine.rows()), net_of(machine)
            for at, row in enumerate(net):
                for stand in again:
                    self.assertEqual(slow_moved(machine, row, stand)[0], stand)
                bounds = [range(net[ahead][ahead]) for ahead in range(at)]
                for own in range(1, row[at]):
                    for ahead in itertools.product(*bounds):
                        counts = list(ahead) + [own] + [0] * (len(net) - at - 1)
                        places = [place for place, many in enumerate(counts) for k in range(many)]
                        self.assertNotEqual(samples.walk(rows, again[0], places)[0], again[0])

    def test_what_moves_nothing_is_made_of_rows(self):
        chance = random.Random(1)
        told = {True: 0, False: 0}
        for machine in ALL:
            net = net_of(machine)
            for turn in range(6):
                often = [chance.randint(-5, 5) for row in net]
                counts = [sum(many * row[at] for many, row in zip(often, net)) for at in range(len(net))]
                self.assertIs(moves_nothing(machine, counts), True)
                # Brought down by the rows from the last letter on, counts that move nothing come to nought.
                counts = [chance.randint(-40, 40) for row in net]
                left_over = list(counts)
                for at in reversed(range(len(net))):
                    many = left_over[at] // net[at][at]
                    left_over = [have - many * row for have, row in zip(left_over, net[at])]
                told[not any(left_over)] += 1
                self.assertIs(moves_nothing(machine, counts), not any(left_over))
        self.assertGreater(min(told.values()), 50)

    def test_new_lists(self):
        machine = thirds()
        net = net_of(machine)
        net[0][0] = 9
        net.append([])
        self.assertEqual(net_of(machine), [[3, 0], [1, 1]])
        for row in net_of(machine):
            self.assertIs(type(row), list)
        self.assertIs(type(net_of(machine)), list)
        self.assertIs(type(box_of(machine)), int)


class MovesNothingTest(RefusalCase):
    def test_by_hand(self):
        for counts, told in (([0, 0], True), ([3, 0], True), ([1, 1], True), ([-1, -1], True), ([2, -1], True),
                             ([-2, 1], True), ([1, 0], False), ([0, -1], False), ([0, 3], True), ([1, -1], False),
                             ([999999999, 0], True), ([999999998, 0], False), ([-999999999, 999999999], True),
                             ([999999998, 999999998], True), ([-999999998, 999999998], False)):
            self.assertIs(moves_nothing(thirds(), counts), told, counts)
            self.assertIs(moves_nothing(thirds(), tuple(counts)), told)
        # Of stands that come again: here the first stand doesn't.
        self.assertIs(moves_nothing(left(), [0, 1]), True)
        self.assertIs(moves_nothing(left(), [-4, -7]), True)
        self.assertIs(moves_nothing(left(), [3, 0]), False)

    def test_from_each_stand_that_comes_again(self):
        chance = random.Random(2)
        for machine in ALL:
            for turn in range(3):
                counts = [chance.randint(-9, 9) for letter in machine.letters()]
                told = {moved_by(machine, counts, stand=stand)[0] == stand for stand in coming_again(machine)}
                self.assertEqual(told, {moves_nothing(machine, counts)})

    def test_refusals(self):
        for counts in ([], [1], [1, 2, 3], (0,) * 200):
            self.refused(BadCounts, {}, moves_nothing, thirds(), counts)
            self.refused(BadCounts, {}, moves_nothing, left(), counts)


class MovedByTest(RefusalCase):
    def test_by_hand(self):
        self.assertEqual(moved_by(thirds(), [0, 0]), (0, [0]))
        self.assertEqual(moved_by(thirds(), [4, 1]), (0, [2]))
        self.assertEqual(moved_by(thirds(), [-1, 0]), (2, [-1]))
        self.assertEqual(moved_by(thirds(), [0, -1]), (1, [-1]))
        self.assertEqual(moved_by(thirds(), [-1, 0], stand=2), (1, [0]))
        self.assertEqual(moved_by(thirds(), [-1, 1], stand=1), (2, [0]))
        self.assertEqual(moved_by(thirds(), [1, -1], stand=2), (1, [0]))
        self.assertEqual(moved_by(thirds(), [-3, -3], stand=1), (1, [-3]))
        self.assertEqual(moved_by(left(), [-3, 2], stand=1), (2, [-3 - 1 - 3 + 2 + 2, 0]))

    def test_like_the_slow_way(self):
        chance = random.Random(3)
        for machine in ALL:
            for turn in range(4):
                counts = [chance.choice([0, -1, 1, -7, 5, -40, 33]) for letter in machine.letters()]
                for stand in chance.sample(coming_again(machine), min(3, box_of(machine))):
                    told = moved_by(machine, counts, stand=stand)
                    self.assertEqual(told, slow_moved(machine, counts, stand))
                    self.assertEqual([type(told), type(told[1])], [tuple, list])

    def test_as_moved_where_nothing_is_below_nought(self):
        chance = random.Random(4)
        for machine in ALL:
            for stand in coming_again(machine)[:4]:
                counts = [chance.choice([0, 1, 59, 100, 999999999]) for letter in machine.letters()]
                self.assertEqual(moved_by(machine, counts, stand=stand), machine.moved(counts, stand=stand))

    def test_there_and_back_again(self):
        chance = random.Random(5)
        for machine in ALL:
            for stand in coming_again(machine)[:3]:
                counts = [chance.choice([0, -3, 8, 999999999, -999999999, -123456789]) for letter in machine.letters()]
                end, sent = moved_by(machine, counts, stand=stand)
                self.assertIn(end, coming_again(machine))
                back = moved_by(machine, [-many for many in counts], stand=end)
                self.assertEqual(back, (stand, [-many for many in sent]))

    def test_rates_and_purses(self):
        chance = random.Random(6)
        for machine in ALL:
            rates, purses = rates_of(machine), purses_of(machine)
            for stand in coming_again(machine)[-3:]:
                counts = [chance.randint(-999999999, 999999999) for letter in machine.letters()]
                end, sent = moved_by(machine, counts, stand=stand)
                for outlet, many in enumerate(sent):
                    gone = sum((as_fraction(rate[outlet]) * count for rate, count in zip(rates, counts)), Fraction(0))
                    self.assertEqual(many, gone + as_fraction(purses[end][outlet]) - as_fraction(purses[stand][outlet]))

    def test_in_pieces(self):
        chance = random.Random(7)
        for machine in ALL[::3]:
            stand = chance.choice(coming_again(machine))
            one, other = ([chance.randint(-99, 99) for letter in machine.letters()] for k in range(2))
            middle, first = moved_by(machine, one, stand=stand)
            end, second = moved_by(machine, other, stand=middle)
            self.assertEqual(moved_by(machine, [a + b for a, b in zip(one, other)], stand=stand),
                             (end, [a + b for a, b in zip(first, second)]))

    def test_refusals(self):
        for counts in ([], [1], [1, 2, 3], (0,) * 200):
            for stand in (0, 1, 3, -1):
                self.refused(BadCounts, {}, moved_by, thirds(), counts, stand=stand)
                self.refused(BadCounts, {}, moved_by, left(), counts, stand=stand)
        for stand in (3, -1, 60, 999999999, -3):
            self.refused(NoStand, {"stand": stand}, moved_by, thirds(), [1, -2], stand=stand)
            self.refused(NoStand, {"stand": stand}, moved_by, left(), [1, -2], stand=stand)
        self.refused(Gone, {"stand": 0}, moved_by, left(), [1, -2])
        self.refused(Gone, {"stand": 0}, moved_by, left(), [0, 0], stand=0)
        self.refused(Gone, {"stand": 0}, moved_by, left(), [1, 2])
        chain = Machine(["a"], [], [[(min(stand + 1, 4), ())] for stand in range(5)])
        for stand in range(4):
            self.refused(Gone, {"stand": stand}, moved_by, chain, [-1], stand=stand)
        self.assertEqual(moved_by(chain, [-1], stand=4), (4, []))

    def test_nothing_is_changed(self):
        machine, counts = thirds(), [-4, 7]
        moved_by(machine, counts, stand=1)
        moves_nothing(machine, counts)
        self.assertEqual((machine, counts), (thirds(), [-4, 7]))


class BacksTest(unittest.TestCase):
    def shown(self, machine):
        """What unlike_backs tells is as in [22]."""
        told = unlike_backs(machine)
        self.assertEqual([type(thing) for thing in told], [list, list, str])
        one, other, letter = told
        place = machine.letters().index(letter)
        self.assertNotEqual(one, other)
        self.assertGreaterEqual(min(one[place], other[place]), 1)
        self.assertEqual(machine.moved(one)[0], machine.moved(other)[0])
        one[place] -= 1
        other[place] -= 1
        self.assertNotEqual(machine.moved(one)[0], machine.moved(other)[0])
        for counts in (one, other):
            self.assertEqual((len(counts), min(counts) >= 0), (len(machine.letters()), True))
            self.assertEqual([type(many) for many in counts], [int] * len(counts))

    def test_by_hand(self):
        self.assertIsNone(unlike_backs(thirds()))
        self.shown(left())
        self.shown(Machine(["a"], [], [[(1, ())], [(1, ())]]))
        self.shown(Machine(["a", "b"], [], [[(0, ()), (1, ())], [(1, ()), (1, ())]]))
        self.assertIsNone(unlike_backs(Machine(["a"], [], [[(0, ())]])))

    def test_all(self):
        told = {True: 0, False: 0}
        for machine in ALL:
            again = 0 in samples.again_by(machine.rows())
            told[again] += 1
            if again:
                self.assertIsNone(unlike_backs(machine))
            else:
                self.shown(machine)
                self.assertIsNone(unlike_backs(begun_at(machine, coming_again(machine)[0])))
        self.assertGreater(min(told.values()), 30)

    def test_new_lists(self):
        told = unlike_backs(left())
        again = unlike_backs(left())
        told[0].append(7)
        told[1][0] = 70
        self.assertEqual(unlike_backs(left()), again)


class InterfaceTest(unittest.TestCase):
    def test_arguments(self):
        self.assertEqual(str(inspect.signature(net_of)), "(machine)")
        self.assertEqual(str(inspect.signature(box_of)), "(machine)")
        self.assertEqual(str(inspect.signature(moves_nothing)), "(machine, counts)")
        self.assertEqual(str(inspect.signature(moved_by)), "(machine, counts, *, stand=0)")
        self.assertEqual(str(inspect.signature(unlike_backs)), "(machine)")

    def test_by_name(self):
        self.assertEqual(net_of(machine=thirds()), net_of(thirds()))
        self.assertEqual(box_of(machine=thirds()), 3)
        self.assertIs(moves_nothing(counts=[1, 1], machine=thirds()), True)
        self.assertEqual(moved_by(counts=[-1, 0], stand=1, machine=thirds()), (0, [0]))
        self.assertIsNone(unlike_backs(machine=thirds()))

    def test_rings(self):
        for size in (1, 2, 59, 60):
            machine = Machine(["a", "b"], ["c"], ring_rows(size, [1, size - 1], [[4], [5]], [[0]] * size))
            self.assertEqual(net_of(machine), [[size, 0], [1 % size, 1]])
            self.assertEqual(moved_by(machine, [-1, -1]), (0, [-9]))


if __name__ == "__main__":
    unittest.main()
