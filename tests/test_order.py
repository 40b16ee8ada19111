"""[2] [6] [7] What comes again, rounds, rates, purses, and whether order holds."""

import copy
import inspect
import unittest
from fractions import Fraction

import samples
from heedless.errors import NoLetter
from heedless.machines import Machine
from heedless.order import coming_again, order_holds, purses_of, rates_of, round_of
from samples import LEFT, MADE, THIRDS, as_fraction

FIRST_AGAIN = [machine for machine in MADE if 0 in samples.again_by(machine.rows())]
FIRST_GONE = [machine for machine in MADE if 0 not in samples.again_by(machine.rows())]


def thirds():
    return Machine(["a", "b"], ["c"], THIRDS)


def left():
    return Machine(["a", "b"], ["c", "d"], LEFT)


def parts_of(lines):
    return [pair for line in lines for pair in line]


class AgainTest(unittest.TestCase):
    def test_both_sorts_of_machines_are_tried(self):
        self.assertGreater(len(FIRST_AGAIN), 20)
        self.assertGreater(len(FIRST_GONE), 20)

    def test_ordinary(self):
        self.assertEqual(coming_again(thirds()), [0, 1, 2])
        self.assertEqual(coming_again(left()), [1, 2])
        self.assertEqual(coming_again(Machine(["a"], [], [[(0, ())]])), [0])
        self.assertEqual(coming_again(Machine(["a"], [], [[(2, ())], [(1, ())], [(1, ())]])), [1])

    def test_a_stand_may_lead_to_itself_and_not_come_again(self):
        rows = [[(0, ()), (1, ())], [(1, ()), (1, ())]]
        self.assertEqual(coming_again(Machine(["a", "b"], [], rows)), [1])

    def test_like_the_slow_way(self):
        for machine in MADE:
            self.assertEqual(coming_again(machine), samples.again_by(machine.rows()))

    def test_told_list_is_new(self):
        machine = left()
        coming_again(machine).append(0)
        self.assertEqual(coming_again(machine), [1, 2])


class RoundTest(unittest.TestCase):
    def test_ordinary(self):
        self.assertEqual(round_of(thirds(), "a"), 3)
        self.assertEqual(round_of(thirds(), "b"), 3)
        self.assertEqual(round_of(left(), "a"), 2)
        self.assertEqual(round_of(left(), "b"), 1)

    def test_least_count_that_leads_each_to_itself(self):
        for machine in MADE:
            rows = machine.rows()
            again = samples.again_by(rows)
            for place, letter in enumerate(machine.letters()):
                told = round_of(machine, letter)
                ends = list(again)
                for count in range(1, told + 1):
                    ends = [rows[stand][place][0] for stand in ends]
                    self.assertEqual(ends == again, count == told)

    def test_long_round(self):
        rows = samples.ring_rows(60, [1, 12, 59], [[0], [0], [0]], [[0]] * 60)
        machine = Machine(["a", "b", "c"], ["a"], rows)
        self.assertEqual([round_of(machine, letter) for letter in "abc"], [60, 5, 60])

    def test_no_letter(self):
        for machine in (thirds(), left()):
            for name in ("c", "z", "", "A"):
                with self.assertRaises(NoLetter) as caught:
                    round_of(machine, name)
                self.assertEqual(vars(caught.exception), {"word": "NoLetter", "name": name})


class RatesTest(unittest.TestCase):
    def test_ordinary(self):
        self.assertEqual(rates_of(thirds()), [[(1, 3)], [(2, 3)]])
        self.assertEqual(rates_of(left()), [[(2, 1), (0, 1)], [(2, 1), (0, 1)]])
        self.assertEqual(rates_of(Machine(["a", "b"], [], [[(0, ()), (0, ())]])), [[], []])

    def test_round_sends_rate_from_each_stand_that_comes_again(self):
        for machine in MADE:
            rows, rates = machine.rows(), rates_of(machine)
            self.assertEqual(len(rates), len(machine.letters()))
            for place, letter in enumerate(machine.letters()):
                many = round_of(machine, letter)
                self.assertIs(type(rates[place]), list)
                for stand in samples.again_by(rows):
                    end, sent = samples.walk(rows, stand, [place] * many)
                    fractions = [Fraction(much, many) for much in sent]
                    self.assertEqual(rates[place], [(each.numerator, each.denominator) for each in fractions])

    def test_told_lists_are_new(self):
        machine = thirds()
        told = rates_of(machine)
        told[0].append((5, 1))
        told.pop()
        self.assertEqual(rates_of(machine), [[(1, 3)], [(2, 3)]])
        rates = rates_of(left())
        rates[0].clear()
        self.assertEqual(rates[1], [(2, 1), (0, 1)])


class PursesTest(unittest.TestCase):
    def test_ordinary(self):
        self.assertEqual(purses_of(thirds()), [[(0, 1)], [(-1, 3)], [(-2, 3)]])
        self.assertEqual(purses_of(left()), [[(0, 1), (0, 1)], [(3, 1), (1, 1)], [(2, 1), (1, 1)]])
        self.assertEqual(purses_of(Machine(["a"], [], [[(1, ())], [(1, ())]])), [[], []])

    def test_nought_at_the_first_and_the_sentence(self):
        for machine in MADE:
            rates, purses = rates_of(machine), purses_of(machine)
            self.assertEqual(purses[0], [(0, 1)] * len(machine.outlets()))
            self.assertEqual([len(purse) for purse in purses], [len(machine.outlets())] * len(machine))
            for stand, row in enumerate(machine.rows()):
                for place, (after, sends) in enumerate(row):
                    for outlet, many in enumerate(sends):
                        self.assertEqual(many, as_fraction(rates[place][outlet]) + as_fraction(purses[after][outlet])
                                         - as_fraction(purses[stand][outlet]))

    def test_parts_in_lowest_terms(self):
        for machine in MADE:
            for pair in parts_of(purses_of(machine)) + parts_of(rates_of(machine)):
                fraction = as_fraction(pair)
                self.assertEqual(pair, (fraction.numerator, fraction.denominator))
                self.assertIs(type(pair), tuple)

    def test_told_lists_are_new(self):
        machine = thirds()
        told = purses_of(machine)
        told[0].append((5, 1))
        self.assertEqual(told[1], [(-1, 3)])
        told.pop()
        self.assertEqual(purses_of(machine), [[(0, 1)], [(-1, 3)], [(-2, 3)]])

    def test_questions_change_nothing(self):
        for machine in (thirds(), left()):
            before = (machine.letters(), machine.outlets(), machine.rows())
            coming_again(machine)
            round_of(machine, "a")
            rates_of(machine)
            purses_of(machine)
            self.assertEqual((machine.letters(), machine.outlets(), machine.rows()), before)


class HoldsTest(unittest.TestCase):
    def holds(self, rows, rates, purses):
        """What order_holds tells, handed lists and handed tuples, which stay as they were."""
        before = copy.deepcopy((rows, rates, purses))
        told = order_holds(rows, rates, purses)
        self.assertEqual((rows, rates, purses), before)
        self.assertIn(told, (True, False))
        self.assertIs(type(told), bool)
        self.assertIs(order_holds(tuple(map(tuple, rows)), tuple(map(tuple, rates)), tuple(map(tuple, purses))), told)
        return told

    def three(self, machine):
        return machine.rows(), rates_of(machine), purses_of(machine)

    def test_holds_of_every_machine(self):
        for machine in MADE:
            self.assertTrue(self.holds(*self.three(machine)))

    def test_by_name(self):
        rows, rates, purses = self.three(thirds())
        self.assertIs(order_holds(purses=purses, rows=rows, rates=rates), True)

    def test_not_in_lowest_terms(self):
        for factor in (2, 7, 10 ** 29):
            rows, rates, purses = self.three(left())
            rates = [[(over * factor, under * factor) for over, under in line] for line in rates]
            self.assertTrue(self.holds(rows, rates, purses))
            purses = [[(over * factor, under * factor) for over, under in line] for line in purses]
            self.assertTrue(self.holds(rows, rates, purses))

    def test_first_purses_may_be_what_they_like(self):
        for machine in MADE[:40]:
            rows, rates, purses = self.three(machine)
            for over, under in ((5, 1), (-7, 3), (10 ** 29, 10 ** 29 - 1)):
                moved = [[(have * under + over * below, below * under) for have, below in line] for line in purses]
                self.assertTrue(self.holds(rows, rates, moved))

    def test_too_few_and_too_many(self):
        for machine in (thirds(), left(), Machine(["a"], [], [[(1, ())], [(0, ())]])):
            rows, rates, purses = self.three(machine)
            self.assertFalse(self.holds(rows, rates[:-1], purses))
            self.assertFalse(self.holds(rows, rates + rates[:1], purses))
            self.assertFalse(self.holds(rows, rates, purses[:-1]))
            self.assertFalse(self.holds(rows, rates, purses + purses[:1]))
            self.assertFalse(self.holds(rows, [], purses))
            self.assertFalse(self.holds(rows, rates, []))
            for at in range(len(rates)):
                self.assertFalse(self.holds(rows, rates[:at] + [rates[at] + [(0, 1)]] + rates[at + 1:], purses))
                if rates[at]:
                    self.assertFalse(self.holds(rows, rates[:at] + [rates[at][:-1]] + rates[at + 1:], purses))
            for at in range(len(purses)):
                self.assertFalse(self.holds(rows, rates, purses[:at] + [purses[at] + [(0, 1)]] + purses[at + 1:]))
                if purses[at]:
                    self.assertFalse(self.holds(rows, rates, purses[:at] + [purses[at][:-1]] + purses[at + 1:]))

    def test_under_of_nought_or_below(self):
        for machine in (thirds(), left()):
            rows, rates, purses = self.three(machine)
            for lines in (rates, purses):
                for line in lines:
                    for at, (over, under) in enumerate(list(line)):
                        for bad in ((over, 0), (0, 0), (-over, -under), (over, -1)):
                            line[at] = bad
                            self.assertFalse(self.holds(rows, rates, purses))
                        line[at] = (over, under)
            self.assertTrue(self.holds(rows, rates, purses))

    def test_a_rate_or_purse_turned(self):
        for machine in MADE[:40]:
            rows, rates, purses = self.three(machine)
            for line in rates:
                self.each_turned(rows, rates, purses, line)
            if len(purses) > 1:
                for line in purses:
                    self.each_turned(rows, rates, purses, line)

    def each_turned(self, rows, rates, purses, line):
        for at, (over, under) in enumerate(list(line)):
            for turned in ((over + 1, under), (over - under, under), (2 * over + 1, 2 * under)):
                line[at] = turned
                self.assertFalse(self.holds(rows, rates, purses))
            line[at] = (over, under)

    def test_sends_turned(self):
        for machine in (thirds(), left()):
            rows, rates, purses = self.three(machine)
            for row in rows:
                for place, (after, sends) in enumerate(list(row)):
                    for at in range(len(sends)):
                        for more in (1, -1):
                            row[place] = (after, sends[:at] + (sends[at] + more,) + sends[at + 1:])
                            self.assertFalse(self.holds(rows, rates, purses))
                    row[place] = (after, sends)
            self.assertTrue(self.holds(rows, rates, purses))

    def test_order_that_turns_a_stand(self):
        rows = [[(1, ()), (0, ())], [(1, ()), (0, ())]]
        self.assertFalse(self.holds(rows, [[], []], [[], []]))
        # Order turns only the last stand, and only by the last two letters.
        rows = [[(1, ()), (1, ()), (1, ())], [(1, ()), (1, ()), (1, ())], [(2, ()), (2, ()), (0, ())]]
        self.assertFalse(self.holds(rows, [[], [], []], [[], [], []]))
        rows[2] = [(2, ()), (2, ()), (2, ())]
        self.assertTrue(self.holds(rows, [[], [], []], [[], [], []]))

    def test_next_stand_turned(self):
        rows, rates, purses = self.three(thirds())
        for stand in range(3):
            for place in range(2):
                after, sends = rows[stand][place]
                for other in range(3):
                    rows[stand][place] = (other, sends)
                    self.assertEqual(self.holds(rows, rates, purses), other == after)
                rows[stand][place] = (after, sends)

    def test_next_stand_turned_where_purses_are_alike(self):
        rows = samples.ring_rows(4, [1, 2], [[3], [5]], [[0]] * 4)
        rates, purses = [[(3, 1)], [(5, 1)]], [[(0, 1)]] * 4
        self.assertTrue(self.holds(rows, rates, purses))
        rows[3][0] = (2, (3,))
        self.assertFalse(self.holds(rows, rates, purses))

    def test_sends_may_be_what_they_like(self):
        rows = [[(1, (-3,))], [(0, (10 ** 8,))]]
        rate = Fraction(10 ** 8 - 3, 2)
        purse = -3 - rate
        rates = [[(rate.numerator, rate.denominator)]]
        self.assertTrue(self.holds(rows, rates, [[(0, 1)], [(purse.numerator, purse.denominator)]]))
        self.assertFalse(self.holds(rows, rates, [[(0, 1)], [(purse.numerator + 1, purse.denominator)]]))

    def test_stands_need_not_be_come_to(self):
        rows = [[(0, (1,))], [(0, (4,))]]
        self.assertTrue(self.holds(rows, [[(1, 1)]], [[(0, 1)], [(-3, 1)]]))
        self.assertFalse(self.holds(rows, [[(1, 1)]], [[(0, 1)], [(0, 1)]]))

    def test_what_holds_heeds_no_order(self):
        rows = [[(0, (2, 0)), (0, (3, 1))]]
        self.assertTrue(self.holds(rows, [[(2, 1), (0, 1)], [(3, 1), (1, 1)]], [[(9, 4), (0, 5)]]))
        self.assertEqual(len(Machine(["a", "b"], ["c", "d"], rows)), 1)


class NamesTest(unittest.TestCase):
    def test_arguments(self):
        self.assertEqual(list(inspect.signature(coming_again).parameters), ["machine"])
        self.assertEqual(list(inspect.signature(round_of).parameters), ["machine", "letter"])
        self.assertEqual(list(inspect.signature(rates_of).parameters), ["machine"])
        self.assertEqual(list(inspect.signature(purses_of).parameters), ["machine"])
        self.assertEqual(list(inspect.signature(order_holds).parameters), ["rows", "rates", "purses"])
        self.assertEqual(round_of(letter="b", machine=left()), 1)


if __name__ == "__main__":
    unittest.main()
