"""[2] [8] [10] [19] What rules send, their machines, and rules for rows of counts."""

import inspect
import itertools
import random
import unittest

import samples
from heedless.errors import BadCounts, TooWide
from heedless.machines import Machine
from heedless.rules import machine_by, read_rules, rules_for, rules_text, sent_by
from samples import RefusalCase

FULL = "each 3 after 2 with a 2, b gives c 4, d at most 5"


def told_names(rules, place):
    return sorted({name for rule in rules for name, number in rule[place]})


def slow_times(rule, worth):
    """How often a rule has sent: at each of the sums up to this one at which it sends."""
    word, every, after, weights, gives, most = rule
    times = len(range(after + every, worth + 1, every))
    return times if most is None or times < most else most


def slow_sent(rules, counts):
    letters = told_names(rules, 3)
    sent = {outlet: 0 for outlet in told_names(rules, 4)}
    for rule in rules:
        worth = sum(weight * counts[letters.index(letter)] for letter, weight in rule[3])
        for outlet, many in rule[4]:
            sent[outlet] += many * slow_times(rule, worth)
    return [sent[outlet] for outlet in sorted(sent)]


def slow_lists(rules):
    """All unlike lists of the rules' numbers that can be come to, or some more than 400, each with counts to it."""
    letters = told_names(rules, 3)
    found = {(0,) * len(rules): [0] * len(letters)}
    lists = list(found)
    for numbers in lists:
        for place, letter in enumerate(letters):
            ends = []
            for number, (word, every, after, weights, gives, most) in zip(numbers, rules):
                number += dict(weights).get(letter, 0)
                if most is None:
                    while number >= after + every:
                        number -= every
                else:
                    number = min(number, after + every * most)
                ends.append(number)
            if tuple(ends) not in found:
                counts = list(found[numbers])
                counts[place] += 1
                found[tuple(ends)] = counts
                lists.append(tuple(ends))
        if len(lists) > 410:
            break
    return found


def unlike_futures(rules, lists):
    """Of how many of these lists no two send alike, whatever one letter sends over and over, or a few of all."""
    letters = len(told_names(rules, 3))
    singles = [[many if at == place else 0 for at in range(letters)] for place in range(letters) for many in range(50)]
    more = singles + [counts for many in range(5) for counts in samples.counts_of(letters, many)]
    futures = set()
    for counts in lists.values():
        ahead = slow_sent(rules, counts)
        futures.add(tuple(slow_sent(rules, [one + other for one, other in zip(counts, extra)])[0] - ahead[0]
                          for extra in more))
    return len(futures)


def random_rules(chance, size, letters, outlets):
    made = []
    for k in range(size):
        weights = sorted(chance.sample(letters, chance.randint(1, len(letters))))
        gives = sorted(chance.sample(outlets, chance.randint(1, len(outlets))))
        made.append(("each", chance.randint(1, 6), chance.choice([0, 0, 1, 2, 5]),
                     tuple((name, chance.randint(1, 4)) for name in weights),
                     tuple((name, chance.randint(1, 4)) for name in gives), chance.choice([None, None, 1, 2, 6])))
    return made


def split(weights, bound):
    """Rules that send a d for each weight, told in pieces up to a bound, and behind it without end."""
    made, at = [], 0
    while at < bound:
        step = min(6, bound - at)
        made.append(("each", 1, at, weights, (("d", 1),), step))
        at += step
    return made + [("each", 1, bound, weights, (("d", 1),), None)]


class SentTest(RefusalCase):
    def test_by_hand(self):
        rules = read_rules(FULL)
        # Each a weighs 2, each b 1: a sum of 5 sends once, of 8 twice, of 17 and more five times.
        for counts, times in (([0, 0], 0), ([1, 0], 0), ([0, 4], 0), ([2, 0], 0), ([2, 1], 1), ([3, 1], 1), ([4, 0], 2),
                              ([0, 16], 4), ([8, 0], 4), ([8, 1], 5), ([0, 19], 5), ([999999999, 999999999], 5)):
            self.assertEqual(sent_by(rules, counts), [4 * times, times])
            self.assertEqual(sent_by(tuple(rules), tuple(counts)), [4 * times, times])

    def test_without_most(self):
        rules = read_rules("each 2 after 12 with b gives c 3; each 1 with a 4 gives d; each 6 with b gives c")
        self.assertEqual(sent_by(rules, [0, 13]), [2, 0])
        self.assertEqual(sent_by(rules, [1, 14]), [5, 4])
        self.assertEqual(sent_by(rules, [999999999, 999999999]), [3 * 499999993 + 166666666, 3999999996])

    def test_letters_and_outlets_rise(self):
        rules = read_rules("each 1 with z gives y; each 1 with b 2 gives x; each 1 with ab 3 gives yy 2")
        self.assertEqual(sent_by(rules, [1, 0, 0]), [0, 0, 6])
        self.assertEqual(sent_by(rules, [0, 1, 0]), [2, 0, 0])
        self.assertEqual(sent_by(rules, [0, 0, 1]), [0, 1, 0])

    def test_near_each_bound(self):
        for every, after, most in itertools.product((1, 2, 6), (0, 1, 12), (None, 1, 6)):
            rules = [("each", every, after, (("a", 1),), (("c", 4),), most)]
            for worth in range(after + 8 * every + 2):
                self.assertEqual(sent_by(rules, [worth]), slow_sent(rules, [worth]), (every, after, most, worth))

    def test_like_the_slow_way(self):
        chance = random.Random(2)
        for turn in range(500):
            rules = random_rules(chance, chance.randint(1, 12), list("abc")[:chance.randint(1, 3)],
                                 list("def")[:chance.randint(1, 3)])
            counts = [chance.randint(0, 30) for letter in told_names(rules, 3)]
            before = list(rules), list(counts)
            told = sent_by(rules, counts)
            self.assertEqual((rules, counts), before)
            self.assertEqual(told, slow_sent(rules, counts))
            self.assertIs(type(told), list)

    def test_bad_counts(self):
        rules = read_rules(FULL)
        for counts in ([], [1], [1, 2, 3], [-1, 0], [0, -1], [999999999, -999999999]):
            self.refused(BadCounts, {}, sent_by, rules, counts)
            self.refused(BadCounts, {}, sent_by, rules, tuple(counts))
        self.refused(BadCounts, {}, sent_by, read_rules("each 1 with a gives c, d"), [1, 1])

    def test_arguments(self):
        self.assertEqual(list(inspect.signature(sent_by).parameters), ["rules", "counts"])
        self.assertEqual(sent_by(counts=[2, 1], rules=read_rules(FULL)), [4, 1])


class MachineTest(RefusalCase):
    def test_by_hand(self):
        self.assertEqual(machine_by(read_rules("each 3 with a, b 2 gives c")),
                         Machine(["a", "b"], ["c"], samples.THIRDS))
        self.assertEqual(machine_by(read_rules("each 2 after 1 with b gives x 3 at most 1")).rows(),
                         [[(1, (0,))], [(2, (0,))], [(3, (3,))], [(3, (0,))]])
        self.assertEqual(machine_by(read_rules("each 1 with a 4 gives c 2")).rows(), [[(0, (8,))]])
        self.assertEqual(machine_by(read_rules("each 2 with a 3 gives c")).rows(), [[(1, (1,))], [(0, (2,))]])

    def test_letters_and_outlets_rise(self):
        machine = machine_by(read_rules("each 2 with z gives y; each 1 with b 2 gives x; each 1 with ab gives yy 2"))
        self.assertEqual((machine.letters(), machine.outlets()), (["ab", "b", "z"], ["x", "y", "yy"]))
        self.assertEqual(machine.rows(), [[(0, (0, 0, 2)), (0, (2, 0, 0)), (1, (0, 0, 0))],
                                          [(1, (0, 0, 2)), (1, (2, 0, 0)), (0, (0, 1, 0))]])

    def test_least_where_rules_make_up_for_one_another(self):
        one = machine_by(read_rules("each 2 with a gives c; each 2 after 1 with a gives c"))
        self.assertEqual(one, machine_by(read_rules("each 1 after 1 with a gives c")))
        self.assertEqual(len(one), 2)
        two = machine_by(read_rules("each 1 with a gives c at most 6; each 1 after 6 with a gives c"))
        self.assertEqual(two.rows(), [[(0, (1,))]])

    def test_sends_so_is_the_least_and_numbered(self):
        chance = random.Random(14)
        let = 0
        for turn in range(400):
            rules = random_rules(chance, chance.choice([1, 1, 2, 2, 3, 4, 12]), list("abc")[:chance.randint(1, 3)],
                                 list("def")[:chance.randint(1, 3)])
            before = list(rules)
            try:
                machine = machine_by(rules)
            except TooWide:
                continue
            let += 1
            self.assertEqual(rules, before)
            self.assertEqual((machine.letters(), machine.outlets()), (told_names(rules, 3), told_names(rules, 4)))
            self.assertIs(type(machine), Machine)
            rows = machine.rows()
            self.assertEqual(samples.come_to(rows), list(range(len(rows))))
            self.assertEqual(len(samples.unlike_pairs(rows)), len(rows) * (len(rows) - 1))
            for many in range(7):
                for counts in samples.counts_of(len(machine.letters()), many):
                    self.assertEqual(machine.moved(counts)[1], slow_sent(rules, counts))
            for bound in (40, 10 ** 9 - 1):
                counts = [chance.randint(0, bound) for letter in machine.letters()]
                self.assertEqual(machine.moved(counts)[1], sent_by(rules, counts))
        self.assertGreater(let, 200)

    def test_too_wide_just_where_it_is(self):
        chance = random.Random(41)
        told = {"lists": 0, "stands": 0, "let": 0}
        for turn in range(60):
            rules = random_rules(chance, chance.choice([2, 3, 8, 9]), list("abc")[:chance.choice([1, 2, 3, 3])], ["d"])
            lists = slow_lists(rules)
            if len(lists) > 400:
                told["lists"] += 1
                self.refused(TooWide, {}, machine_by, rules)
            elif unlike_futures(rules, lists) > 60:
                told["stands"] += 1
                self.refused(TooWide, {}, machine_by, rules)
            else:
                told["let"] += 1
                self.assertEqual(len(machine_by(rules)), unlike_futures(rules, lists))
        self.assertGreater(min(told.values()), 3, told)

    def test_just_400_lists_and_one_more(self):
        # All of these send as one stand would, so that only the lists can be too many.
        a, b, c = (("a", 1),), (("b", 1),), (("c", 1),)
        let = split(b, 9) + split((("a", 2), ("c", 1)), 11) + split(a, 4)
        self.assertEqual(len(slow_lists(let)), 400)
        self.assertEqual(machine_by(let).rows(), [[(0, (3,)), (0, (1,)), (0, (1,))]])
        more = split((("b", 4),), 9) + split(a, 9) + split((("a", 3), ("b", 1), ("c", 1)), 4) + split(c, 9)
        self.assertEqual((len(slow_lists(more)), len(more)), (401, 11))
        self.refused(TooWide, {}, machine_by, more)
        self.refused(TooWide, {}, machine_by, split(a, 12) + split(b, 12) + split(c, 12))

    def test_just_60_stands_and_one_more(self):
        for text in ("each 3 with a gives c; each 4 with a gives c; each 5 with a gives c",
                     "each 5 with a gives c; each 4 with b gives c; each 3 with c gives c",
                     "each 4 after 11 with a gives c; each 4 with b gives c; each 1 after 1 with a gives d"):
            self.assertEqual(len(machine_by(read_rules(text))), 60)
        for text, size in (("each 3 with a gives c; each 4 with a gives c; each 5 with a gives c; "
                            "each 1 with a gives d at most 1", 61),
                           ("each 5 with a gives c; each 4 with b gives c; each 4 with c gives c", 80)):
            self.assertEqual(len(slow_lists(read_rules(text))), size)
            self.refused(TooWide, {}, machine_by, read_rules(text))

    def test_more_than_60_lists_but_fewer_stands(self):
        rules = split((("a", 1),), 12) + split((("b", 1),), 9)
        self.assertEqual(len(slow_lists(rules)), 130)
        self.assertEqual(machine_by(rules).rows(), [[(0, (1,)), (0, (1,))]])

    def test_twelve_rules(self):
        rules = read_rules("; ".join(["each 6 after 12 with a 4, b 4, c 4 gives d 4, e 4, f 4"] * 12))
        machine = machine_by(rules)
        self.assertEqual(machine.step(len(machine) - 1, "c")[1][0] % 48, 0)
        self.assertEqual(machine.moved([3, 1, 1])[1], [48] * 3)

    def test_arguments(self):
        self.assertEqual(list(inspect.signature(machine_by).parameters), ["rules"])
        self.assertEqual(machine_by(rules=tuple(read_rules(FULL))), machine_by(read_rules(FULL)))


def rows_of_counts(most):
    """All rows of up to so many counts from 0 to 2."""
    return [list(row) for size in range(most + 1) for row in itertools.product(range(3), repeat=size)]


class RulesForTest(RefusalCase):
    def keeps_to_the_point(self, rules):
        """Whether rules are as in [8], with one letter a and one outlet c."""
        self.assertIs(type(rules), list)
        self.assertTrue(1 <= len(rules) <= 12)
        for rule in rules:
            self.assertIs(type(rule), tuple)
            word, every, after, weights, gives, most = rule
            self.assertEqual(word, "each")
            self.assertTrue(1 <= every <= 6 and 0 <= after <= 12)
            self.assertTrue(most is None or 1 <= most <= 6)
            for pairs, name in ((weights, "a"), (gives, "c")):
                self.assertIs(type(pairs), tuple)
                self.assertIs(type(pairs[0]), tuple)
                self.assertEqual([pair[0] for pair in pairs], [name])
                self.assertTrue(1 <= pairs[0][1] <= 4)

    def test_by_hand(self):
        for early, later, sent in (([], [1], [1, 2, 3, 4]), ([], [0, 2], [0, 2, 2, 4]), ([2], [0], [2, 2, 2, 2]),
                                   ([0, 0, 1], [2, 0], [0, 0, 1, 3, 3, 5, 5, 7])):
            rules = rules_for(early, later)
            for many, much in enumerate(sent, 1):
                self.assertEqual(sent_by(rules, [many]), [much])

    def test_every_row(self):
        for early in rows_of_counts(4):
            for later in rows_of_counts(4)[1:]:
                if any(early + later):
                    self.sends_the_row(early, later)

    def sends_the_row(self, early, later):
        rules = rules_for(early, later)
        self.keeps_to_the_point(rules)
        sent = 0
        for many in range(len(early) + 2 * len(later) + 1):
            self.assertEqual(sent_by(rules, [many]), [sent])
            sent += early[many] if many < len(early) else later[(many - len(early)) % len(later)]

    def test_far_letters_and_machines(self):
        chance = random.Random(6)
        for turn in range(200):
            early, later = chance.choice(rows_of_counts(4)), chance.choice(rows_of_counts(4)[1:])
            if any(early + later):
                rules = rules_for(tuple(early), tuple(later))
                self.assertEqual(read_rules(rules_text(rules)), rules)
                machine = machine_by(rules)
                self.assertEqual((machine.letters(), machine.outlets()), (["a"], ["c"]))
                many = chance.randint(9, 999999999)
                laps, rest = divmod(many - len(early), len(later))
                sent = sum(early) + laps * sum(later) + sum(later[:rest])
                self.assertEqual(sent_by(rules, [many]), [sent])
                self.assertEqual(machine.moved([many])[1], [sent])

    def test_bad_counts(self):
        for early, later in (([0] * 5, [1]), ([1] * 5, [1]), ([], []), ([1], []), ([], [1] * 5), ([2], [0, 0, 0, 0, 1]),
                             ([3], [1]), ([1], [3]), ([-1], [1]), ([1], [0, -1]), ([0, 0, 0, 999999999], [1]),
                             ([], [0]), ([0], [0]), ([0, 0, 0, 0], [0, 0, 0, 0]), ([2, -1], [1]), ([1, -1], [1, -1])):
            self.refused(BadCounts, {}, rules_for, early, later)
            self.refused(BadCounts, {}, rules_for, tuple(early), tuple(later))

    def test_nothing_is_changed_and_lists_are_new(self):
        early, later = [0, 2], [1, 0, 2]
        told = rules_for(early, later)
        self.assertEqual((early, later), ([0, 2], [1, 0, 2]))
        again = rules_for(early, later)
        told.clear()
        self.assertEqual(rules_for(early, later), again)
        self.assertNotEqual(again, [])

    def test_arguments(self):
        self.assertEqual(list(inspect.signature(rules_for).parameters), ["early", "later"])
        self.assertEqual(rules_for(later=[1, 2], early=[0]), rules_for([0], [1, 2]))


if __name__ == "__main__":
    unittest.main()
