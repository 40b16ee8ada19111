"""Machines for the tests, and slow reckonings to hold the program against."""

import itertools
import random
from fractions import Fraction

from heedless.machines import Machine

THIRDS = [
    [(1, (0,)), (2, (0,))],
    [(2, (0,)), (0, (1,))],
    [(0, (1,)), (1, (1,))],
]

# Stand 0 is left by any letter and never come to again.
LEFT = [
    [(1, (5, 1)), (2, (4, 1))],
    [(2, (1, 0)), (1, (2, 0))],
    [(1, (3, 0)), (2, (2, 0))],
]


def rule_number(rule, number):
    every, after, weights, gives, most = rule
    if most is not None:
        return min(number, after + every * most)
    while number >= after + every:
        number -= every
    return number


def rule_sent(rule, number):
    every, after, weights, gives, most = rule
    times = max(0, number - after) // every
    return times if most is None else min(times, most)


def rules_rows(rules, letters, outlets):
    """Rows by rules (every, after, weights, gives, most), or None where there are over 60."""
    stands = {(0,) * len(rules): 0}
    found = [(0,) * len(rules)]
    rows = []
    while len(rows) < len(found):
        numbers = found[len(rows)]
        row = []
        for place in range(letters):
            sends = [0] * outlets
            ends = []
            for rule, number in zip(rules, numbers):
                more = number + rule[2][place]
                times = rule_sent(rule, more) - rule_sent(rule, number)
                sends = [have + times * give for have, give in zip(sends, rule[3])]
                ends.append(rule_number(rule, more))
            end = tuple(ends)
            if end not in stands:
                stands[end] = len(found)
                found.append(end)
            if len(found) > 60:
                return None
            row.append((stands[end], tuple(sends)))
        rows.append(row)
    return rows


def ring_rows(size, steps, rates, held):
    """Stands 0 to size - 1 in a ring; sends by whole rates and held numbers."""
    return [[((stand + step) % size,
              tuple(rate + held[(stand + step) % size][at] - held[stand][at] for at, rate in enumerate(rates[place])))
             for place, step in enumerate(steps)] for stand in range(size)]


def random_rule(chance, letters, outlets):
    return (chance.randint(1, 6), chance.randint(0, 6), [chance.randint(0, 4) for k in range(letters)],
            [chance.randint(0, 4) for k in range(outlets)], chance.choice([None, None, 1, 2, 3]))


def made():
    """Many machines of 1 to 60 stands, of all counts of letters and outlets; the same ones at each run."""
    chance = random.Random(20)
    machines = [Machine(["a", "b"], ["c"], THIRDS), Machine(["a", "b"], ["c", "d"], LEFT)]
    for letters, outlets, size in itertools.product([1, 2, 3], [0, 1, 2, 3], [1, 2, 3]):
        for turn in range(4):
            rows = rules_rows([random_rule(chance, letters, outlets) for k in range(size)], letters, outlets)
            if rows is not None:
                machines.append(Machine(list("xyz")[:letters], list("pqr")[:outlets], rows))
    for size in [1, 2, 12, 59, 60]:
        for letters, outlets in [(1, 1), (2, 2), (3, 3)]:
            held = [[chance.randint(0, 9) for k in range(outlets)] for stand in range(size)]
            rates = [[chance.randint(9, 30) for k in range(outlets)] for k in range(letters)]
            steps = [1, 0, chance.randint(0, 60)][:letters]
            machines.append(Machine(list("cab")[:letters], list("cab")[:outlets], ring_rows(size, steps, rates, held)))
    chain = [[(min(stand + 1, 59), (stand,))] for stand in range(60)]
    machines.append(Machine(["a"], ["a"], chain))
    return machines


MADE = made()


def as_fraction(pair):
    return Fraction(pair[0], pair[1])


def walk(rows, stand, places):
    """Letters one by one: the last stand and what was sent."""
    sent = [0] * len(rows[0][0][1])
    for place in places:
        stand, sends = rows[stand][place]
        sent = [have + more for have, more in zip(sent, sends)]
    return stand, sent


def reach_by(rows):
    """For each stand the set of stands that can be come to from it."""
    reach = [{stand} | {after for after, sends in row} for stand, row in enumerate(rows)]
    for middle in range(len(rows)):
        for stand in range(len(rows)):
            if middle in reach[stand]:
                reach[stand] |= reach[middle]
    return reach


def again_by(rows):
    reach = reach_by(rows)
    return [stand for stand in range(len(rows)) if all(stand in reach[other] for other in reach[stand])]


def heeded_by(rows):
    """The first (stand, one, other) whose order is not all one, or None."""
    for stand in range(len(rows)):
        for one in range(len(rows[0])):
            for other in range(one + 1, len(rows[0])):
                if walk(rows, stand, [one, other]) != walk(rows, stand, [other, one]):
                    return stand, one, other
    return None


def doubled(rows, place, stand, many):
    """So many of one letter, by doubling: another way than the program's."""
    leap = [(row[place][0], list(row[place][1])) for row in rows]
    sent = [0] * len(rows[0][0][1])
    while many:
        if many % 2:
            sent = [have + more for have, more in zip(sent, leap[stand][1])]
            stand = leap[stand][0]
        leap = [(leap[after][0], [have + more for have, more in zip(sends, leap[after][1])]) for after, sends in leap]
        many //= 2
    return stand, sent
