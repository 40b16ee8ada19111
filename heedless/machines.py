"""Machines with letters, outlets and stands, which don't heed the order of their letters."""

from heedless.errors import BadCounts, BadName, BadRow, BadSize, Heeds, NoLetter, NoStand, TooWide, Unreached

LETTERS = 3
STANDS = 60
MOST = 999999
NAME_SIGNS = 6


def is_name(text):
    """Whether a text has 1 to 6 letters from a to z, and nothing else."""
    return 1 <= len(text) <= NAME_SIGNS and all(["a" <= sign <= "z" for sign in text])


def refuse_sizes(letters, outlets, rows):
    """BadSize where there are too few or too many letters, outlets or rows."""
    if not 1 <= len(letters) <= LETTERS:
        raise BadSize()
    if len(outlets) > LETTERS:
        raise BadSize()
    if not 1 <= len(rows) <= STANDS:
        raise BadSize()


def refuse_names(names):
    """BadName at the first text that is no name, or stood ahead."""
    for at, name in enumerate(names):
        if not is_name(name) or name in names[:at]:
            raise BadName(name)


def pair_fits(pair, outlets, stands):
    """Whether a pair has a next stand that there is, and a number that is let for each outlet."""
    if len(pair) != 2:
        return False
    after, sends = pair
    if not 0 <= after < stands or len(sends) != outlets:
        return False
    return all([0 <= many <= MOST for many in sends])


def refuse_rows(rows, letters, outlets):
    """BadRow at the first stand whose row has not a fitting pair for each letter."""
    for stand, row in enumerate(rows):
        if len(row) != letters or not all([pair_fits(pair, outlets, len(rows)) for pair in row]):
            raise BadRow(stand)


def reached(rows, first):
    """For each stand whether it can be come to from the first one, which can itself."""
    seen = [stand == first for stand in range(len(rows))]
    found = [first]
    at = 0
    while at < len(found):
        for after, sends in rows[found[at]]:
            if not seen[after]:
                seen[after] = True
                found.append(after)
        at += 1
    return seen


def explored(first, step, ways, most):
    """Rows whose stands are all things come to from a first one, numbered as they are come to.

    A step tells of a thing and a way the next thing and what is sent. TooWide where
    there are more than most.
    """
    found = [first]
    places = {first: 0}
    rows = []
    while len(rows) < len(found):
        pairs = [step(found[len(rows)], way) for way in ways]
        for after, sends in pairs:
            if after not in places:
                places[after] = len(found)
                found.append(after)
        if len(found) > most:
            raise TooWide()
        rows.append([(places[after], sends) for after, sends in pairs])
    return rows


def refuse_unreached(rows):
    """Unreached at the least stand that can't be come to from the first one."""
    for stand, seen in enumerate(reached(rows, 0)):
        if not seen:
            raise Unreached(stand)


def added(one, other):
    """Two lists of numbers, added place by place."""
    return [first + second for first, second in zip(one, other)]


def letter_pairs(letters):
    """The places of any two of so many letters, rising."""
    return [(one, other) for one in range(letters) for other in range(one + 1, letters)]


def two_steps(rows, stand, one, other):
    """Where one letter and then another lead from a stand, and what both send."""
    middle, first = rows[stand][one]
    end, second = rows[middle][other]
    return end, added(first, second)


def refuse_heeding(rows, letters):
    """Heeds at the least stand and the first two letters whose order is not all one there."""
    for stand in range(len(rows)):
        for one, other in letter_pairs(len(letters)):
            if two_steps(rows, stand, one, other) != two_steps(rows, stand, other, one):
                raise Heeds(stand, letters[one], letters[other])


def refuse_counts(counts, size):
    """BadCounts where there are not so many counts, or one is below nought."""
    if len(counts) != size or any([many < 0 for many in counts]):
        raise BadCounts()


def lap_from(rows, place, stand):
    """The stands to which one letter leads, over and over, until one is met again.

    The first of them is the stand itself; the number told with them is the place
    among them of the one that is met again.
    """
    met = {}
    path = []
    while stand not in met:
        met[stand] = len(path)
        path.append(stand)
        stand = rows[stand][place][0]
    return path, met[stand]


def repeated(rows, place, stand, many):
    """Where so many of one letter lead from a stand, and what they send."""
    # Counts may have nine figures, so whole laps are reckoned, not walked.
    path, ahead = lap_from(rows, place, stand)
    lap = len(path) - ahead
    sent = [0 for much in rows[stand][place][1]]
    for at, spot in enumerate(path[:many]):
        often = 1 if at < ahead else (many - at - 1) // lap + 1
        sent = added(sent, [often * much for much in rows[spot][place][1]])
    if many < len(path):
        return path[many], sent
    return path[ahead + (many - ahead) % lap], sent


class Machine:
    """A machine that doesn't heed order; it never changes once it is made."""

    def __init__(self, letters, outlets, rows):
        refuse_sizes(letters, outlets, rows)
        refuse_names(letters)
        refuse_names(outlets)
        refuse_rows(rows, len(letters), len(outlets))
        self.letter_names = tuple(letters)
        self.outlet_names = tuple(outlets)
        self.table = tuple([tuple([(after, tuple(sends)) for after, sends in row]) for row in rows])
        refuse_unreached(self.table)
        refuse_heeding(self.table, self.letter_names)

    def letters(self):
        """The letters' names, in their order."""
        return list(self.letter_names)

    def outlets(self):
        """The outlets' names, in their order."""
        return list(self.outlet_names)

    def rows(self):
        """For each stand a list with for each letter a pair (next stand, sends)."""
        return [list(row) for row in self.table]

    def step(self, stand, letter):
        """The next stand and the sends of a letter at a stand."""
        self.refuse_stand(stand)
        if letter not in self.letter_names:
            raise NoLetter(letter)
        return self.table[stand][self.letter_names.index(letter)]

    def moved(self, counts, *, stand=0):
        """The stand to which counts lead from a stand, and what is sent on the way."""
        refuse_counts(counts, len(self.letter_names))
        self.refuse_stand(stand)
        sent = [0 for outlet in self.outlet_names]
        for place, many in enumerate(counts):
            stand, sends = repeated(self.table, place, stand, many)
            sent = added(sent, sends)
        return stand, sent

    def refuse_stand(self, stand):
        """NoStand where there is no such stand."""
        if not 0 <= stand < len(self.table):
            raise NoStand(stand)

    def __len__(self):
        return len(self.table)

    def __eq__(self, other):
        return (isinstance(other, Machine) and self.letter_names == other.letter_names
                and self.outlet_names == other.outlet_names and self.table == other.table)

    def __repr__(self):
        return f"Machine({len(self.table)} stands, {len(self.letter_names)} letters, {len(self.outlet_names)} outlets)"
