"""Which stands come again, the rounds and rates of letters, and the purses of stands."""

from heedless.errors import NoLetter
from heedless.machines import lap_from, letter_pairs, reached
from heedless.parts import less, part, plus


def comes_back(reach, stand):
    """Whether a stand can be come to from each stand that can be come to from it."""
    return all([reach[other][stand] for other in range(len(reach)) if reach[stand][other]])


def coming_again(machine):
    """The stands that come again, rising."""
    rows = machine.rows()
    reach = [reached(rows, stand) for stand in range(len(rows))]
    return [stand for stand in range(len(rows)) if comes_back(reach, stand)]


def lap_at(rows, place, again):
    """The stands of a letter's round from a stand that comes again."""
    # There each letter takes no two stands to one, so its lap begins at once,
    # and it is as long from each such stand, for they all lead to one another.
    path, ahead = lap_from(rows, place, again)
    return path


def round_of(machine, letter):
    """The least count of a letter that leads each stand that comes again to itself."""
    letters = machine.letters()
    if letter not in letters:
        raise NoLetter(letter)
    return len(lap_at(machine.rows(), letters.index(letter), coming_again(machine)[0]))


def letter_rates(rows, place, again, outlets):
    """What a letter's round sends at each outlet, divided by the round."""
    path = lap_at(rows, place, again)
    return [part(sum([rows[stand][place][1][outlet] for stand in path]), len(path)) for outlet in range(outlets)]


def rates_of(machine):
    """For each letter a list of parts: its rate at each outlet."""
    rows = machine.rows()
    again = coming_again(machine)[0]
    outlets = len(machine.outlets())
    return [letter_rates(rows, place, again, outlets) for place in range(len(machine.letters()))]


def purse_behind(purse, sends, rates):
    """The purse of the next stand, where a letter with these rates sends so from this one."""
    return [plus(held, less(part(many), rate)) for held, many, rate in zip(purse, sends, rates)]


def purses_of(machine):
    """For each stand a list of parts: its purse for each outlet, nought at the first stand."""
    rows = machine.rows()
    rates = rates_of(machine)
    purses = {0: [part(0) for outlet in machine.outlets()]}
    found = [0]
    at = 0
    while at < len(found):
        stand = found[at]
        for place, (after, sends) in enumerate(rows[stand]):
            if after not in purses:
                purses[after] = purse_behind(purses[stand], sends, rates[place])
                found.append(after)
        at += 1
    return [purses[stand] for stand in range(len(rows))]


def stands_hold(rows):
    """Whether any two letters lead each stand to the same stand either way about."""
    return all([rows[row[one][0]][other][0] == rows[row[other][0]][one][0]
                for row in rows for one, other in letter_pairs(len(row))])


def as_many(rows, rates, purses):
    """Whether there are rates for each letter, purses for each stand, one for each outlet."""
    if len(purses) != len(rows) or any([len(row) != len(rates) for row in rows]):
        return False
    return all([len(sends) == len(rate) and len(sends) == len(purse)
                for row, purse in zip(rows, purses) for (after, sends), rate in zip(row, rates)])


def unders_hold(lines):
    """Whether each pair's under is 1 or more."""
    return all([under >= 1 for line in lines for over, under in line])


def sends_hold(sends, rates, here, there):
    """Whether a letter sends its rate, and the purse of the next stand, less that of this one."""
    return all([less(part(many), rate) == less(behind, ahead)
                for many, rate, ahead, behind in zip(sends, rates, here, there)])


def order_holds(rows, rates, purses):
    """Whether these rates and purses, and stands that order doesn't turn, show that rows heed no order."""
    if not stands_hold(rows) or not as_many(rows, rates, purses):
        return False
    if not unders_hold(rates) or not unders_hold(purses):
        return False
    return all([sends_hold(sends, rates[place], purses[stand], purses[after])
                for stand, row in enumerate(rows) for place, (after, sends) in enumerate(row)])
