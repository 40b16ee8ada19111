"""Nets: counts, below nought too, that move the stands that come again, or move nothing."""

from heedless.errors import BadCounts, Gone
from heedless.likes import one_more
from heedless.machines import added
from heedless.order import coming_again, lap_at


def lists_below(bounds):
    """All lists with a number from 0 to below its bound at each place, rising."""
    lists = [[]]
    for bound in bounds:
        lists = [line + [many] for line in lists for many in range(bound)]
    return lists


def net_row(machine, again, net):
    """The row of the letter behind those of which the net has rows, by a stand that comes again."""
    behind = [0 for letter in machine.letters()[len(net) + 1:]]
    ahead = lists_below([row[at] for at, row in enumerate(net)])
    own = 1
    while True:
        for counts in ahead:
            row = counts + [own] + behind
            if machine.moved(row, stand=again)[0] == again:
                return row
        own += 1


def net_of(machine):
    """For each letter its row of the net."""
    again = coming_again(machine)[0]
    net = []
    while len(net) < len(machine.letters()):
        net.append(net_row(machine, again, net))
    return net


def box_of(machine):
    """The product of the rows' own counts."""
    box = 1
    for at, row in enumerate(net_of(machine)):
        box *= row[at]
    return box


def moves_nothing(machine, counts):
    """Whether counts lead each stand that comes again to itself."""
    again = coming_again(machine)[0]
    return moved_by(machine, counts, stand=again)[0] == again


def moved_by(machine, counts, *, stand=0):
    """Where counts, below nought too, lead a stand that comes again, and what they send or call back."""
    if len(counts) != len(machine.letters()):
        raise BadCounts()
    machine.refuse_stand(stand)
    if stand not in coming_again(machine):
        raise Gone(stand)
    rounds = [len(lap_at(machine.rows(), place, stand)) for place in range(len(counts))]
    # Whole rounds lead nowhere, so those of counts below nought are called back all the same.
    end, sent = machine.moved([many % lap for many, lap in zip(counts, rounds)], stand=stand)
    for place, (many, lap) in enumerate(zip(counts, rounds)):
        once = [lap if at == place else 0 for at in range(len(rounds))]
        sent = added(sent, [many // lap * much for much in machine.moved(once, stand=stand)[1]])
    return end, sent


def ways_to(rows):
    """For each stand counts that lead there from the first one."""
    ways = {0: [0 for pair in rows[0]]}
    found = [0]
    at = 0
    while at < len(found):
        stand = found[at]
        for place, (after, sends) in enumerate(rows[stand]):
            if after not in ways:
                ways[after] = one_more(ways[stand], place)
                found.append(after)
        at += 1
    return ways


def unlike_backs(machine):
    """None where the first stand comes again, else counts, other counts and a letter, as one stand has two backs."""
    # Where no letter leads two stands to one, each letter's stands go round in rings, so all
    # of them come again; where the first stand comes again, all do, and no letter leads two to one.
    rows = machine.rows()
    ways = ways_to(rows)
    for place, letter in enumerate(machine.letters()):
        backs = {}
        for stand, row in enumerate(rows):
            after = row[place][0]
            if after in backs:
                return one_more(ways[backs[after]], place), one_more(ways[stand], place), letter
            backs[after] = stand
    return None
