"""Machines for the tests, and slow reckonings to hold the program against."""

import itertools
import random
import unittest
from fractions import Fraction

from heedless.errors import TooWide
from heedless.machines import Machine
from heedless.rules import machine_by, read_rules
from heedless.webs import Web

THIRDS = [
    [(1, (0,)), (2, (0,))],
    [(2, (0,)), (0, (1,))],
    [(0, (1,)), (1, (1,))],
]

# Stand 0 is left by any letter and never come to again.
LEFT = [
    [(1, (5, 1)), (2, (4, 1))],
    [(2, (1, 0)), (1, (2, 0))],
    [(1, (3, 0)), (2, (2, 0))],
]


class RefusalCase(unittest.TestCase):
    def refused(self, kind, fields, call, *args, **named):
        with self.assertRaises(kind) as caught:
            call(*args, **named)
        self.assertIs(type(caught.exception), kind)
        self.assertEqual(vars(caught.exception), {"word": kind.__name__, **fields})


def rule_number(rule, number):
    every, after, weights, gives, most = rule
    if most is not None:
        return min(number, after + every * most)
    while number >= after + every:
        number -= every
    return number


def rule_sent(rule, number):
    every, after, weights, gives, most = rule
    times = max(0, number - after) // every
    return times if most is None else min(times, most)


def rules_rows(rules, letters, outlets):
    """Rows by rules (every, after, weights, gives, most), or None where there are over 60."""
    stands = {(0,) * len(rules): 0}
    found = [(0,) * len(rules)]
    rows = []
    while len(rows) < len(found):
        numbers = found[len(rows)]
        row = []
        for place in range(letters):
            sends = [0] * outlets
            ends = []
            for rule, number in zip(rules, numbers):
                more = number + rule[2][place]
                times = rule_sent(rule, more) - rule_sent(rule, number)
                sends = [have + times * give for have, give in zip(sends, rule[3])]
                ends.append(rule_number(rule, more))
            end = tuple(ends)
            if end not in stands:
                stands[end] = len(found)
                found.append(end)
            if len(found) > 60:
                return None
            row.append((stands[end], tuple(sends)))
        rows.append(row)
    return rows


def ring_rows(size, steps, rates, held):
    """Stands 0 to size - 1 in a ring; sends by whole rates and held numbers."""
    return [[((stand + step) % size,
              tuple(rate + held[(stand + step) % size][at] - held[stand][at] for at, rate in enumerate(rates[place])))
             for place, step in enumerate(steps)] for stand in range(size)]


def random_rule(chance, letters, outlets):
    return (chance.randint(1, 6), chance.randint(0, 6), [chance.randint(0, 4) for k in range(letters)],
            [chance.randint(0, 4) for k in range(outlets)], chance.choice([None, None, 1, 2, 3]))


def made():
    """Many machines of 1 to 60 stands, of all counts of letters and outlets; the same ones at each run."""
    chance = random.Random(20)
    machines = [Machine(["a", "b"], ["c"], THIRDS), Machine(["a", "b"], ["c", "d"], LEFT)]
    for letters, outlets, size in itertools.product([1, 2, 3], [0, 1, 2, 3], [1, 2, 3]):
        for turn in range(4):
            rows = rules_rows([random_rule(chance, letters, outlets) for k in range(size)], letters, outlets)
            if rows is not None:
                machines.append(Machine(list("xyz")[:letters], list("pqr")[:outlets], rows))
    for size in [1, 2, 12, 59, 60]:
        for letters, outlets in [(1, 1), (2, 2), (3, 3)]:
            held = [[chance.randint(0, 9) for k in range(outlets)] for stand in range(size)]
            rates = [[chance.randint(9, 30) for k in range(outlets)] for k in range(letters)]
            steps = [1, 0, chance.randint(0, 60)][:letters]
            machines.append(Machine(list("cab")[:letters], list("cab")[:outlets], ring_rows(size, steps, rates, held)))
    chain = [[(min(stand + 1, 59), (stand,))] for stand in range(60)]
    machines.append(Machine(["a"], ["a"], chain))
    return machines


MADE = made()


def as_fraction(pair):
    return Fraction(pair[0], pair[1])


def walk(rows, stand, places):
    """Letters one by one: the last stand and what was sent."""
    sent = [0] * len(rows[0][0][1])
    for place in places:
        stand, sends = rows[stand][place]
        sent = [have + more for have, more in zip(sent, sends)]
    return stand, sent


def reach_by(rows):
    """For each stand the set of stands that can be come to from it."""
    reach = [{stand} | {after for after, sends in row} for stand, row in enumerate(rows)]
    for middle in range(len(rows)):
        for stand in range(len(rows)):
            if middle in reach[stand]:
                reach[stand] |= reach[middle]
    return reach


def again_by(rows):
    reach = reach_by(rows)
    return [stand for stand in range(len(rows)) if all(stand in reach[other] for other in reach[stand])]


def heeded_by(rows):
    """The first (stand, one, other) whose order is not all one, or None."""
    for stand in range(len(rows)):
        for one in range(len(rows[0])):
            for other in range(one + 1, len(rows[0])):
                if walk(rows, stand, [one, other]) != walk(rows, stand, [other, one]):
                    return stand, one, other
    return None


def doubled(rows, place, stand, many):
    """So many of one letter, by doubling: another way than the program's."""
    leap = [(row[place][0], list(row[place][1])) for row in rows]
    sent = [0] * len(rows[0][0][1])
    while many:
        if many % 2:
            sent = [have + more for have, more in zip(sent, leap[stand][1])]
            stand = leap[stand][0]
        leap = [(leap[after][0], [have + more for have, more in zip(sends, leap[after][1])]) for after, sends in leap]
        many //= 2
    return stand, sent


def renumbered(rows, order):
    """Rows with the stands numbered anew: order[k] is the old number of the new stand k."""
    places = {old: new for new, old in enumerate(order)}
    return [[(places[after], sends) for after, sends in rows[old]] for old in order]


def come_to(rows, first=0):
    """The stands as they are come to: the first one, then by rising stands, from each by the letters."""
    order = [first]
    for stand in order:
        for after, sends in rows[stand]:
            if after not in order:
                order.append(after)
    return order


def begun_at(machine, stand):
    """The machine with another first stand, and such stands as can be come to from there."""
    rows = machine.rows()
    return Machine(machine.letters(), machine.outlets(), renumbered(rows, come_to(rows, stand)))


def blown_up(chance, rows, idle):
    """Rows that do the same as others while an idle machine goes along, numbered in any order."""
    pairs = [(0, 0)]
    wide = []
    for stand, other in pairs:
        row = []
        for (after, sends), (beside, nothing) in zip(rows[stand], idle[other]):
            if (after, beside) not in pairs:
                pairs.append((after, beside))
            row.append((pairs.index((after, beside)), sends))
        wide.append(row)
    behind = list(range(1, len(wide)))
    chance.shuffle(behind)
    return renumbered(wide, [0] + behind)


def idle_rows(chance, letters):
    """Rows that send nothing: a ring, or stands of which the first ones don't come again."""
    if chance.random() < 0.5:
        size = chance.randint(2, 5)
        return ring_rows(size, [1] + [chance.randint(0, size) for k in range(letters - 1)], [[]] * letters, [[]] * size)
    size = chance.randint(2, 5)
    steps = [1] + [chance.randint(0, 2) for k in range(letters - 1)]
    return [[(min(stand + step, size - 1), ()) for step in steps] for stand in range(size)]


def unlike_pairs(rows):
    """All pairs of stands from which some counts send unlike, found by going over all pairs time and again."""
    unlike = {(one, other) for one, other in itertools.product(range(len(rows)), repeat=2)
              if [sends for after, sends in rows[one]] != [sends for after, sends in rows[other]]}
    before = -1
    while before != len(unlike):
        before = len(unlike)
        unlike |= {(one, other) for one, other in itertools.product(range(len(rows)), repeat=2)
                   if any((first[0], second[0]) in unlike for first, second in zip(rows[one], rows[other]))}
    return unlike


def counts_of(letters, many):
    """All counts of so many letters in all, rising."""
    if letters == 1:
        return [[many]]
    return [[first] + rest for first in range(many + 1) for rest in counts_of(letters - 1, many - first)]


def made_webs(many):
    """Webs of any machines with threads of all sorts; the same ones at each run."""
    chance = random.Random(19)
    webs = []
    while len(webs) < many:
        names = chance.sample(["m", "n", "ab", "zz", "k"], chance.randint(1, 4))
        machines = [(name, chance.choice(MADE)) for name in names]
        threads = []
        for name, machine in machines:
            for outlet in machine.outlets():
                goal, target = chance.choice(machines)
                threads.append(chance.choice([(name, outlet, goal, chance.choice(target.letters())),
                                              (name, outlet, goal, target.letters()[0]),
                                              (name, outlet, chance.choice(["in", "out"])), None]))
        threads = [thread for thread in threads if thread is not None]
        chance.shuffle(threads)
        if sum(len(machine.letters()) for name, machine in machines) <= 8:
            webs.append(Web(machines, threads))
    return webs


def ring(*texts):
    """Machines with letter a and outlet c by rules, each one's outlet leading to the next one's letter."""
    names = "mnop"[:len(texts)]
    machines = [(name, machine_by(read_rules(text))) for name, text in zip(names, texts)]
    return Web(machines, [(name, "c", names[(at + 1) % len(names)], "a") for at, name in enumerate(names)])


def threaded(chance, machines):
    """A web in which each outlet leads to some machine's letter."""
    threads = []
    for name, machine in machines:
        for outlet in machine.outlets():
            goal, target = chance.choice(machines)
            threads.append((name, outlet, goal, chance.choice(target.letters())))
    return Web(machines, threads)


def heavy_web(chance, high):
    """Machines of one stand each, all outlets with threads among them, with sends up to a bound."""
    sizes = chance.choice([(1,), (2,), (3,), (1, 1), (2, 3), (2, 2, 2), (3, 3, 2), (2, 2, 2, 2)])
    machines = []
    for at, size in enumerate(sizes):
        row = [(0, tuple(chance.choice([0, 0, 0, chance.randint(0, high)]) for k in range(3))) for k in range(size)]
        machines.append(("mnop"[at], Machine(list("abc")[:size], list("cde"), [row])))
    return threaded(chance, machines)


def calm_text(chance, letters, outlets):
    """Rules by which few letters go out of many."""
    texts = []
    for outlet in outlets:
        weights = ", ".join(letters)
        texts.append(f"each {chance.randint(2, 6)} after {chance.randint(1, 4)} with {weights} gives {outlet}")
    return "; ".join(texts)


def calm_web(chance):
    """Machines by rules, so that rates are fractions and rounds are more than 1; some of these webs go on."""
    machines = []
    for name in "mnop"[:chance.randint(1, 4)]:
        text = calm_text(chance, "ab"[:chance.randint(1, 2)], "cd"[:chance.randint(1, 2)])
        machines.append((name, machine_by(read_rules(text))))
    return threaded(chance, machines)


def every(size, many=1, outlets="c"):
    """A machine with letter a that sends so many at its first outlet at every so manieth letter."""
    sends = (many,) + (0,) * (len(outlets) - 1)
    rows = [[((stand + 1) % size, sends if stand == size - 1 else (0,) * len(outlets))] for stand in range(size)]
    return Machine(["a"], list(outlets), rows)


class SlowRun:
    """A run by dicts, turn by turn: another way than the program's."""

    def __init__(self, web):
        self.web = web
        self.stands = {name: 0 for name in web.names()}
        self.waiting = {kind: 0 for kind in web.kinds()}
        self.tally = {kind: 0 for kind in web.kinds()}
        self.handed = {kind: 0 for kind in web.kinds()}
        self.sent = {door: 0 for door in web.doors()}

    def hand(self, kind, many):
        self.waiting[kind] += many
        self.handed[kind] += many

    def turn(self, kind):
        name, letter = kind
        machine = self.web.machine(name)
        self.waiting[kind] -= 1
        self.tally[kind] += 1
        self.stands[name], sends = machine.step(self.stands[name], letter)
        for outlet, many in zip(machine.outlets(), sends):
            goal = self.web.goal(name, outlet)
            if goal in self.waiting:
                self.waiting[goal] += many
            elif goal is not None:
                self.sent[goal] += many

    def there(self):
        return [kind for kind in self.web.kinds() if self.waiting[kind]]

    def work(self, most, row=()):
        for done in range(most):
            if not self.there():
                return done
            self.turn(self.there()[row[done] % len(self.there())] if done < len(row) else self.there()[0])
        return most

    def told(self):
        """What a run is to tell, as told_of."""
        books = [list(book.values()) for book in (self.stands, self.waiting, self.tally, self.handed, self.sent)]
        wait = sum(books[1])
        return books + [wait == 0, wait, f"Run({wait} waiting, {sum(books[2])} taken)"]


def told_of(run):
    """All that a run tells of itself."""
    return [run.stands(), run.waiting(), run.tally(), run.handed(), run.sent(), run.resting(), len(run), repr(run)]


def hand_all(run, counts):
    """Hands counts by kinds, of any size."""
    for (name, letter), many in zip(run.web().kinds(), counts):
        while many > 0:
            run.hand(name, letter, many=min(many, 999))
            many -= min(many, 999)
    return run


def work_all(run, most=400000):
    """Works till rest, and tells how many turns that took."""
    turns = 0
    while not run.resting():
        turns += run.work()
        if turns > most:
            raise AssertionError("no rest")
    return turns


def books_hold(run):
    """Whether what waits and was sent is what square, tally and purses tell."""
    web = run.web()
    tally = run.tally()
    for wait, given, took, row, purse in zip(run.waiting(), run.handed(), tally, web.square(), run.purse()):
        if wait != given - took + sum(as_fraction(rate) * many for rate, many in zip(row, tally)) + as_fraction(purse):
            return False
    for sent, row, purse in zip(run.sent(), web.door_rates(), run.door_purse()):
        if sent != sum(as_fraction(rate) * many for rate, many in zip(row, tally)) + as_fraction(purse):
            return False
    return len(run.purse()) == len(web) and len(run.door_purse()) == len(web.doors())


def mixed_webs(chance, many):
    """Webs of all sorts, with rings, of which some go on."""
    makers = [lambda: calm_web(chance), lambda: heavy_web(chance, chance.choice([1, 2, 999999])),
              lambda: doors_web(chance)]
    return made_webs(many // 4) + [chance.choice(makers)() for turn in range(many - many // 4)]


def doors_web(chance):
    """Machines by rules with one to three letters, outlets leading to letters and doors, in rings that end."""
    machines = []
    for name in "mnop"[:chance.randint(1, 4)]:
        letters = "abc"[:chance.choice([1, 1, 2, 2, 3]) if name != "p" else 1]
        texts = [calm_text(chance, letters[:1], "c"), calm_text(chance, letters, "d")]
        bound = f"each 1 with {letters[0]} gives c at most {chance.randint(1, 4)}"
        try:
            machines.append((name, machine_by(read_rules("; ".join(texts[:chance.randint(1, 2)] + [bound])))))
        except TooWide:
            return doors_web(chance)
    if sum(len(machine.letters()) for name, machine in machines) > 8:
        return doors_web(chance)
    threads = []
    for name, machine in machines:
        for outlet in machine.outlets():
            goal, target = chance.choice(machines)
            threads.append(chance.choice([(name, outlet, goal, chance.choice(target.letters())),
                                          (name, outlet, chance.choice(["in", "out", "z"]))]))
    return Web(machines, threads)
