"""Whether all work of a web ends, with weights or counts that show it, and judges of both."""

from heedless.order import round_of
from heedless.parts import below, divided, greatest_common, less, part, times, total


def scaled(row, line):
    """The sum of a row of parts, each times the number at its place in a line."""
    return total([times(rate, part(number)) for rate, number in zip(row, line)])


def weights_hold(web, weights):
    """Whether weights show that all work of a web ends, whatever is handed."""
    if len(weights) != len(web) or any([weight < 1 for weight in weights]):
        return False
    square = web.square()
    return all([below(scaled([row[at] for row in square], weights), part(weight))
                for at, weight in enumerate(weights)])


def rounds_of(web):
    """For each kind the round of its letter."""
    return [round_of(web.machine(name), letter) for name, letter in web.kinds()]


def counts_hold(web, counts):
    """Whether counts show that some work of a web never ends."""
    if len(counts) != len(web) or any([many < 0 for many in counts]) or sum(counts) == 0:
        return False
    if any([many % lap != 0 for many, lap in zip(counts, rounds_of(web))]):
        return False
    return not any([below(scaled(row, counts), part(many)) for row, many in zip(web.square(), counts)])


def common_multiple(numbers):
    """The least number, 1 or more, into which all of these go whole."""
    common = 1
    for number in numbers:
        common = common * number // greatest_common(common, number)
    return common


def wholes(line, common):
    """Parts, all times a number that makes them whole."""
    return [over * (common // under) for over, under in line]


def made_whole(line):
    """Parts, all times the least number that makes them whole."""
    return wholes(line, common_multiple([under for over, under in line]))


def unit_row(size, place):
    """A row of noughts, but 1 at a place."""
    return [part(1 if at == place else 0) for at in range(size)]


def rows_less_square(square):
    """The unit rows less the square's, and beside each its unit row again."""
    size = len(square)
    return [[less(unit, rate) for unit, rate in zip(unit_row(size, place), row)] + unit_row(size, place)
            for place, row in enumerate(square)]


def row_less(row, often, lead):
    """A row less so often another one."""
    return [less(entry, times(often, taken)) for entry, taken in zip(row, lead)]


def cleared(rows, at):
    """Rows with one column made that of the unit rows, by dividing its own row and taking it off the others."""
    lead = [divided(entry, rows[at][at]) for entry in rows[at]]
    return [lead if place == at else row_less(row, row[at], lead) for place, row in enumerate(rows)]


def cleared_through(square):
    """The unit rows less the square, cleared column by column, and the place where that can't go on, or None."""
    # Off their own places the unit rows less the square have nothing above nought. So they
    # have an inverse with nothing below nought just where each row in its turn, the columns
    # ahead being cleared, has more than nought at its own place.
    rows = rows_less_square(square)
    for at in range(len(rows)):
        if not below(part(0), rows[at][at]):
            return rows, at
        rows = cleared(rows, at)
    return rows, None


def inverse_of(web):
    """The rows of the inverse of the unit rows less the square, or None where some work never ends."""
    rows, stuck = cleared_through(web.square())
    return [row[len(rows):] for row in rows] if stuck is None else None


def counts_from(web, rows, at):
    """Counts that show that some work never ends, where the row at a place has no more than nought there."""
    # For one of that kind these parts of the kinds ahead of it come out even, and that kind
    # itself even or above; the kinds behind it are not taken, so what comes there is no less.
    line = [less(part(0), row[at]) for row in rows[:at]] + unit_row(len(rows), at)[at:]
    laps = common_multiple(rounds_of(web))
    return [laps * many for many in made_whole(line)]


def ending(web):
    """("ends", weights) where all work ends, or ("on", counts) where some work never does."""
    rows, stuck = cleared_through(web.square())
    if stuck is not None:
        return "on", counts_from(web, rows, stuck)
    # The sums of the inverse's columns are weights: times the unit rows less the square
    # they come to 1 for each kind.
    size = len(rows)
    return "ends", made_whole([total([row[size + at] for row in rows]) for at in range(size)])
