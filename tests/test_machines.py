"""[2] [4] [5] Machines: what they tell, what they refuse, and counts."""

import itertools
import random
import unittest

import samples
from heedless import machines
from heedless.errors import BadCounts, BadName, BadRow, BadSize, Heeds, NoLetter, NoStand, Unreached
from heedless.machines import Machine
from samples import LEFT, MADE, THIRDS, RefusalCase


def thirds():
    return Machine(["a", "b"], ["c"], THIRDS)


def still(letters, outlets=0, stands=1):
    """Rows in which each stand leads on by each letter, round and round, and sends nothing."""
    return [[((stand + 1) % stands, (0,) * outlets) for k in range(letters)] for stand in range(stands)]


class TellingTest(unittest.TestCase):
    def test_bounds(self):
        self.assertEqual((machines.LETTERS, machines.STANDS, machines.MOST), (3, 60, 999999))

    def test_letters_outlets_rows(self):
        machine = Machine(["b", "a"], ["d", "b"], LEFT)
        self.assertEqual(machine.letters(), ["b", "a"])
        self.assertEqual(machine.outlets(), ["d", "b"])
        self.assertEqual(machine.rows(), LEFT)

    def test_kinds_of_values(self):
        machine = Machine(("a", "b"), ("c",), tuple(tuple(row) for row in THIRDS))
        for told in (machine.letters(), machine.outlets(), machine.rows()):
            self.assertIs(type(told), list)
        for row in machine.rows():
            self.assertIs(type(row), list)
            for pair in row:
                self.assertIs(type(pair), tuple)
                self.assertIs(type(pair[1]), tuple)
        self.assertIs(type(machine.step(0, "a")), tuple)
        self.assertIs(type(machine.step(0, "a")[1]), tuple)
        moved = machine.moved((1, 1))
        self.assertIs(type(moved), tuple)
        self.assertIs(type(moved[1]), list)

    def test_lists_or_tuples_are_one(self):
        for rows in (tuple(THIRDS), [tuple(row) for row in THIRDS], tuple(tuple(row) for row in THIRDS)):
            machine = Machine(("a", "b"), ("c",), rows)
            self.assertEqual(machine, thirds())
            self.assertEqual(machine.rows(), THIRDS)

    def test_by_name(self):
        machine = Machine(rows=THIRDS, outlets=["c"], letters=["a", "b"])
        self.assertEqual(machine, thirds())
        self.assertEqual(machine.step(letter="b", stand=1), (0, (1,)))
        self.assertEqual(machine.moved(stand=2, counts=[1, 0]), (0, [1]))
        with self.assertRaises(TypeError):
            machine.moved([1, 0], 2)

    def test_step(self):
        for machine in MADE:
            rows = machine.rows()
            for stand in range(len(machine)):
                for place, letter in enumerate(machine.letters()):
                    self.assertEqual(machine.step(stand, letter), rows[stand][place])

    def test_len_and_repr(self):
        self.assertEqual(len(thirds()), 3)
        self.assertEqual(repr(thirds()), "Machine(3 stands, 2 letters, 1 outlets)")
        self.assertEqual(repr(Machine(["a"], [], still(1))), "Machine(1 stands, 1 letters, 0 outlets)")
        self.assertEqual(repr(Machine(["a", "b", "c"], ["c", "b"], still(3, 2, 60))),
                         "Machine(60 stands, 3 letters, 2 outlets)")
        self.assertEqual(len(Machine(["a"], [], still(1, 0, 60))), 60)

    def test_equal(self):
        self.assertTrue(thirds() == thirds())
        self.assertFalse(thirds() != thirds())
        sends = [[(after, (2 * sends[0],)) for after, sends in row] for row in THIRDS]
        for other in (Machine(["b", "a"], ["c"], THIRDS), Machine(["a", "b"], ["d"], THIRDS),
                      Machine(["a", "b"], ["c"], sends), Machine(["a", "b"], ["c"], [[(0, (0,)), (0, (0,))]]),
                      Machine(["a", "b"], ["c"], [[row[1], row[0]] for row in THIRDS])):
            self.assertTrue(thirds() != other)
            self.assertFalse(thirds() == other)

    def test_equal_in_order(self):
        one = Machine(["a", "b"], ["c", "d"], LEFT)
        other = Machine(["a", "b"], ["d", "c"], [[(after, sends[::-1]) for after, sends in row] for row in LEFT])
        self.assertFalse(one == other)

    def test_equal_to_nothing_else(self):
        for other in (None, 3, "Machine(3 stands, 2 letters, 1 outlets)", THIRDS, (["a", "b"], ["c"], THIRDS)):
            self.assertFalse(thirds() == other)
            self.assertTrue(thirds() != other)

    def test_methods_stand_in_the_class(self):
        for name in ("letters", "outlets", "rows", "step", "moved", "__init__", "__len__", "__eq__", "__repr__"):
            self.assertIn(name, vars(Machine))


class CopyTest(unittest.TestCase):
    def test_what_was_handed_in_may_change_behind(self):
        letters, outlets, rows = ["a", "b"], ["c"], [list(row) for row in THIRDS]
        machine = Machine(letters, outlets, rows)
        self.assertEqual((letters, outlets, rows), (["a", "b"], ["c"], THIRDS))
        letters[0] = "z"
        outlets.append("d")
        rows[0][0] = (2, (7,))
        del rows[1]
        self.assertEqual(machine, thirds())
        self.assertEqual(machine.moved([4, 1]), (0, [2]))

    def test_told_lists_are_new(self):
        machine = thirds()
        machine.letters().append("z")
        machine.outlets().clear()
        rows = machine.rows()
        rows[0][0] = (0, (9,))
        rows.pop()
        machine.moved([4, 1])[1].append(5)
        self.assertEqual(machine.letters(), ["a", "b"])
        self.assertEqual(machine.outlets(), ["c"])
        self.assertEqual(machine.rows(), THIRDS)
        self.assertEqual(machine.moved([4, 1]), (0, [2]))
        self.assertEqual(machine, thirds())

    def test_counts_stay_as_they_were(self):
        counts = [4, 1]
        thirds().moved(counts, stand=1)
        self.assertEqual(counts, [4, 1])

    def test_refused_changes_nothing(self):
        machine = thirds()
        counts, rows = [1, -1], [list(row) for row in THIRDS] + [[(3, (0,)), (3, (0,))]]
        with self.assertRaises(BadCounts):
            machine.moved(counts)
        with self.assertRaises(NoStand):
            machine.step(3, "a")
        with self.assertRaises(Unreached):
            Machine(["a", "b"], ["c"], rows)
        self.assertEqual(counts, [1, -1])
        self.assertEqual(rows, THIRDS + [[(3, (0,)), (3, (0,))]])
        self.assertEqual(machine, thirds())

    def test_two_machines_have_nothing_to_do_with_one_another(self):
        rows = [list(row) for row in THIRDS]
        one, other = Machine(["a", "b"], ["c"], rows), Machine(["a", "b"], ["c"], rows)
        one.rows()[0].clear()
        self.assertEqual(other.rows(), THIRDS)


class SizeAndNameTest(RefusalCase):
    def test_sizes_that_are_let(self):
        for letters, outlets, stands in itertools.product([1, 2, 3], [0, 1, 2, 3], [1, 2, 59, 60]):
            machine = Machine(list("abc")[:letters], list("abc")[:outlets], still(letters, outlets, stands))
            self.assertEqual(len(machine), stands)

    def test_bad_size(self):
        self.refused(BadSize, {}, Machine, [], [], [[]])
        self.refused(BadSize, {}, Machine, list("abcd"), [], still(4))
        self.refused(BadSize, {}, Machine, ["a"], list("abcd"), still(1, 4))
        self.refused(BadSize, {}, Machine, ["a"], [], [])
        self.refused(BadSize, {}, Machine, ["a"], [], still(1, 0, 61))

    def test_bad_size_goes_ahead(self):
        self.refused(BadSize, {}, Machine, ["A", "A", "A", "A"], ["B"], [[(9, ())]])
        self.refused(BadSize, {}, Machine, ["A"], ["B", "B", "B", "B"], [[(9, ())]])
        self.refused(BadSize, {}, Machine, ["A", "A"], ["B", "B"], [])
        self.refused(BadSize, {}, Machine, ["A", "A"], ["B", "B"], [[(9, ())]] * 61)

    def test_names_that_are_let(self):
        for name in ("a", "z", "abcdef", "zzzzzz", "each"):
            self.assertEqual(Machine([name], [name], still(1, 1)).letters(), [name])

    def test_bad_names(self):
        for name in ("", "abcdefg", "A", "aB", "a1", "1", "a ", " a", "a-b", "`", "{", "ab_"):
            self.refused(BadName, {"name": name}, Machine, [name], [], still(1))
            self.refused(BadName, {"name": name}, Machine, ["a", name, "!"], [], still(3))
            self.refused(BadName, {"name": name}, Machine, ["a"], ["b", name, "!"], still(1, 3))

    def test_names_that_stood_ahead(self):
        self.refused(BadName, {"name": "b"}, Machine, ["a", "b", "b"], [], still(3))
        self.refused(BadName, {"name": "a"}, Machine, ["a", "b", "a"], ["c", "c"], still(3, 2))
        self.refused(BadName, {"name": "c"}, Machine, ["a", "b"], ["c", "a", "c"], still(2, 3))

    def test_letters_go_ahead_of_outlets_and_rows(self):
        self.refused(BadName, {"name": "B"}, Machine, ["a", "B"], ["C"], [[(9, ())]])
        self.refused(BadName, {"name": "C"}, Machine, ["a", "b"], ["C"], [[(9, ())]])
        self.refused(BadName, {"name": "a"}, Machine, ["a", "a", "B"], [], still(3))


class RowTest(RefusalCase):
    def turned(self, stand, row):
        """The thirds with one row turned."""
        rows = [list(each) for each in THIRDS]
        rows[stand] = row
        return rows

    def test_bad_rows(self):
        good = (0, (0,))
        for row in ([], [good], [good, good, good], [good, (3, (0,))], [(-1, (0,)), good], [good, (60, (0,))],
                    [good, (0, ())], [(0, (0, 0)), good], [good, (0, (-1,))], [(0, (1000000,)), good],
                    [good, (0,)], [(0, (0,), 0), good], [good, ()]):
            for stand in range(3):
                self.refused(BadRow, {"at": stand}, Machine, ["a", "b"], ["c"], self.turned(stand, row))
                self.refused(BadRow, {"at": stand}, Machine, ["a", "b"], ["c"], self.turned(stand, tuple(row)))

    def test_any_outlet_may_be_bad(self):
        for at in range(3):
            for many in (-1, 1000000):
                sends = [0, 0, 0]
                sends[at] = many
                self.refused(BadRow, {"at": 0}, Machine, ["a"], ["c", "d", "e"], [[(0, tuple(sends))]])

    def test_sends_at_their_edges(self):
        machine = Machine(["a"], ["c", "d"], [[(0, (0, 999999))]])
        self.assertEqual(machine.step(0, "a"), (0, (0, 999999)))

    def test_first_stand_goes_first(self):
        rows = [list(row) for row in THIRDS]
        rows[1] = [(0, (0,))]
        rows[2] = [(5, (0,)), (5, (0,))]
        self.refused(BadRow, {"at": 1}, Machine, ["a", "b"], ["c"], rows)

    def test_bad_row_goes_ahead_of_unreached_and_heeds(self):
        rows = [[(0, ()), (0, ())], [(0, ()), (1, ())], [(0, ()), (3, ())]]
        self.refused(BadRow, {"at": 2}, Machine, ["a", "b"], [], rows)

    def test_unreached_tells_the_least(self):
        rows = [[(3, ())], [(0, ())], [(1, ())], [(0, ())]]
        self.refused(Unreached, {"stand": 1}, Machine, ["a"], [], rows)
        self.refused(Unreached, {"stand": 2}, Machine, ["a"], [], [[(1, ())], [(3, ())], [(0, ())], [(0, ())]])
        self.refused(Unreached, {"stand": 59}, Machine, ["a"], [], still(1, 0, 59)[:-1] + [[(0, ())], [(0, ())]])

    def test_unreached_goes_ahead_of_heeds(self):
        rows = [[(1, ()), (0, ())], [(1, ()), (0, ())], [(2, ()), (2, ())]]
        self.refused(Unreached, {"stand": 2}, Machine, ["a", "b"], [], rows)
        self.refused(Heeds, {"stand": 0, "one": "a", "other": "b"}, Machine, ["a", "b"], [], rows[:2])

    def test_come_to_by_whatever_letters(self):
        rows = [[(0, ()), (2, ()), (0, ())], [(1, ()), (1, ()), (1, ())], [(2, ()), (1, ()), (2, ())]]
        self.assertEqual(len(Machine(["a", "b", "c"], [], rows)), 3)


class HeedsTest(RefusalCase):
    def test_other_stand(self):
        rows = [[(1, ()), (0, ())], [(1, ()), (0, ())]]
        self.refused(Heeds, {"stand": 0, "one": "y", "other": "x"}, Machine, ["y", "x"], [], rows)

    def test_same_stand_but_other_sends(self):
        rows = [[(1, (0, 0)), (1, (0, 0))], [(0, (0, 0)), (0, (0, 1))]]
        self.refused(Heeds, {"stand": 0, "one": "a", "other": "b"}, Machine, ["a", "b"], ["c", "d"], rows)

    def test_sums_are_held_together_not_each(self):
        rows = [[(1, (1,)), (1, (3,))], [(0, (5,)), (0, (7,))]]
        self.assertEqual(len(Machine(["a", "b"], ["c"], rows)), 2)

    def test_first_letters(self):
        # a and b are all one, a and c are not, nor are b and c.
        rows = [[(0, (0,)), (0, (0,)), (1, (0,))], [(1, (1,)), (1, (1,)), (1, (0,))]]
        self.refused(Heeds, {"stand": 0, "one": "a", "other": "c"}, Machine, ["a", "b", "c"], ["d"], rows)
        rows = [[(0, (0,)), (0, (0,)), (1, (0,))], [(1, (0,)), (1, (1,)), (1, (0,))]]
        self.refused(Heeds, {"stand": 0, "one": "b", "other": "c"}, Machine, ["a", "b", "c"], ["d"], rows)

    def test_least_stand_goes_ahead_of_first_letters(self):
        # At 0 only b and c are not all one; at 1 a and b are not.
        rows = [[(1, (0,)), (1, (0,)), (1, (1,))], [(2, (0,)), (2, (0,)), (2, (0,))], [(2, (0,)), (2, (1,)), (2, (0,))]]
        self.assertEqual(samples.heeded_by(rows), (0, 0, 2))
        rows[1][2] = (2, (1,))
        self.assertEqual(samples.heeded_by(rows), (1, 0, 1))
        self.refused(Heeds, {"stand": 1, "one": "a", "other": "b"}, Machine, ["a", "b", "c"], ["d"], rows)

    def test_each_stand_is_looked_at(self):
        for stand in range(1, 60):
            rows = still(2, 1, 60)
            rows[stand][1] = (rows[stand][1][0], (1,))
            self.refused(Heeds, {"stand": stand - 1, "one": "a", "other": "b"}, Machine, ["a", "b"], ["c"], rows)

    def test_made_machines_with_one_thing_turned(self):
        chance = random.Random(5)
        turned = 0
        for machine in MADE:
            for turn in range(6):
                rows = machine.rows()
                stand, place = chance.randrange(len(rows)), chance.randrange(len(rows[0]))
                after, sends = rows[stand][place]
                if turn % 2 or not sends:
                    after = chance.randrange(len(rows))
                else:
                    sends = (sends[0] + 1,) + sends[1:]
                rows[stand][place] = (after, sends)
                turned += self.like_the_slow_way(machine, rows)
        self.assertGreater(turned, 100)

    def like_the_slow_way(self, machine, rows):
        letters, outlets = machine.letters(), machine.outlets()
        unseen = [stand for stand in range(len(rows)) if stand not in samples.reach_by(rows)[0]]
        heeded = samples.heeded_by(rows)
        if unseen:
            self.refused(Unreached, {"stand": unseen[0]}, Machine, letters, outlets, rows)
        elif heeded:
            fields = {"stand": heeded[0], "one": letters[heeded[1]], "other": letters[heeded[2]]}
            self.refused(Heeds, fields, Machine, letters, outlets, rows)
        else:
            self.assertEqual(Machine(letters, outlets, rows).rows(), rows)
        return heeded is not None


class StepTest(RefusalCase):
    def test_no_stand(self):
        for stand in (-1, -3, 3, 60, 999999999):
            self.refused(NoStand, {"stand": stand}, thirds().step, stand, "a")

    def test_no_letter(self):
        for name in ("c", "z", "", "A", "ab"):
            self.refused(NoLetter, {"name": name}, thirds().step, 0, name)

    def test_no_stand_goes_ahead(self):
        self.refused(NoStand, {"stand": 3}, thirds().step, 3, "z")


class MovedTest(RefusalCase):
    def test_ordinary(self):
        self.assertEqual(thirds().moved([0, 0]), (0, [0]))
        self.assertEqual(thirds().moved([4, 1]), (0, [2]))
        self.assertEqual(thirds().moved([4, 1], stand=1), (1, [2]))
        self.assertEqual(thirds().moved((2, 0), stand=1), (0, [1]))
        self.assertEqual(Machine(["a"], [], still(1, 0, 7)).moved([10]), (3, []))

    def test_stand_left_out_is_the_first(self):
        for machine in MADE:
            counts = [5] * len(machine.letters())
            self.assertEqual(machine.moved(counts), machine.moved(counts, stand=0))

    def test_small_counts_in_any_order_from_any_stand(self):
        chance = random.Random(9)
        for machine in MADE:
            rows = machine.rows()
            for stand in range(len(machine)):
                counts = [chance.randint(0, 9) for letter in machine.letters()]
                places = [place for place, many in enumerate(counts) for k in range(many)]
                chance.shuffle(places)
                self.assertEqual(machine.moved(counts, stand=stand), samples.walk(rows, stand, places))

    def test_one_letter_up_to_its_lap_and_beyond(self):
        for machine in MADE[:60]:
            rows = machine.rows()
            for place in range(len(machine.letters())):
                for many in range(2 * len(rows) + 3):
                    counts = [0] * len(machine.letters())
                    counts[place] = many
                    self.assertEqual(machine.moved(counts), samples.walk(rows, 0, [place] * many))

    def test_long_counts(self):
        for machine in MADE:
            rows = machine.rows()
            for base in (999999999, 123456789, 720720000, 10 ** 12):
                stand = base % len(rows)
                counts = [base - 7 * place for place in range(len(machine.letters()))]
                end, sent = stand, [0] * len(machine.outlets())
                for place, many in enumerate(counts):
                    end, more = samples.doubled(rows, place, end, many)
                    sent = [have + much for have, much in zip(sent, more)]
                self.assertEqual(machine.moved(counts, stand=stand), (end, sent))

    def test_bad_counts(self):
        for counts in ([], [1], [1, 2, 3], [-1, 0], [0, -1], [999999999, -999999999]):
            self.refused(BadCounts, {}, thirds().moved, counts)
            self.refused(BadCounts, {}, thirds().moved, tuple(counts))

    def test_no_stand(self):
        for stand in (-1, 3, 60):
            self.refused(NoStand, {"stand": stand}, thirds().moved, [0, 0], stand=stand)
            self.refused(NoStand, {"stand": stand}, thirds().moved, [1, 2], stand=stand)

    def test_bad_counts_go_ahead(self):
        self.refused(BadCounts, {}, thirds().moved, [1], stand=3)
        self.refused(BadCounts, {}, thirds().moved, [1, -1], stand=-1)


if __name__ == "__main__":
    unittest.main()
