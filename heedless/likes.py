"""Machines that do the same, the least of them, and counts by which others are parted."""

from heedless.errors import Unlike
from heedless.machines import Machine


def numbered(things):
    """For each thing its number: unlike things are numbered from 0 on, as they first stand."""
    numbers = {}
    for thing in things:
        numbers.setdefault(thing, len(numbers))
    return [numbers[thing] for thing in things]


def finer_marks(rows, marks):
    """Marks that are alike where marks are, and those of all next stands too."""
    return numbered([(mark, tuple([marks[after] for after, sends in row])) for mark, row in zip(marks, rows)])


def marks_of(rows):
    """For each stand a mark, alike at two stands where no counts from there send unlike."""
    marks = numbered([tuple([sends for after, sends in row]) for row in rows])
    finer = finer_marks(rows, marks)
    # Marks are numbered as they first stand, so they are equal once no more stands are parted.
    while finer != marks:
        marks = finer
        finer = finer_marks(rows, marks)
    return marks


def least_rows(rows):
    """The rows of the least machine, and for each stand the one of it that does the same.

    All stands can be come to from the first one. There may be more of them than a
    machine may have.
    """
    marks = marks_of(rows)
    places = {marks[0]: 0}
    found = [0]
    least = []
    while len(least) < len(found):
        row = rows[found[len(least)]]
        for after, sends in row:
            if marks[after] not in places:
                places[marks[after]] = len(found)
                found.append(after)
        least.append([(places[marks[after]], sends) for after, sends in row])
    return least, [places[mark] for mark in marks]


def least_of(machine):
    """The least machine that does the same, and for each stand the stand of it that does the same."""
    least, places = least_rows(machine.rows())
    return Machine(machine.letters(), machine.outlets(), least), places


def one_more(counts, place):
    """The counts with one more letter at a place."""
    return counts[:place] + [counts[place] + 1] + counts[place + 1:]


def unlike_behind(rows, others, level):
    """The counts with one letter more than those of a level where that letter sends unlike."""
    return [one_more(counts, place) for (stand, twin), counts in level.items() for place in range(len(counts))
            if rows[stand][place][1] != others[twin][place][1]]


def level_behind(rows, others, level, seen):
    """The pairs of stands that are first come to behind a level, each with the least counts that lead there."""
    ends = {}
    for (stand, twin), counts in level.items():
        for place in range(len(counts)):
            end = (rows[stand][place][0], others[twin][place][0])
            more = one_more(counts, place)
            if end not in seen and (end not in ends or more < ends[end]):
                ends[end] = more
    return ends


def parted(one, other):
    """The least counts that two machines send unlike, or None where they do the same."""
    if one.letters() != other.letters() or one.outlets() != other.outlets():
        raise Unlike()
    rows = one.rows()
    others = other.rows()
    # The least counts that send unlike pass no pair of stands to which fewer letters or
    # lesser counts would lead, else they would not be the least: so each pair is met once.
    level = {(0, 0): [0 for letter in one.letters()]}
    seen = {}
    while len(level) > 0:
        unlike = unlike_behind(rows, others, level)
        if len(unlike) > 0:
            return min(unlike)
        for pair in level:
            seen[pair] = True
        level = level_behind(rows, others, level, seen)
    return None
