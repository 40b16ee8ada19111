"""Every refusal of the program, each an error class of its own."""


class HeedError(ValueError):
    """What was handed in can't be let."""

    def __init__(self, word="HeedError", about=""):
        ValueError.__init__(self, word + about)
        self.word = word


class BadPart(HeedError):
    """A fraction with nought below."""

    def __init__(self):
        HeedError.__init__(self, "BadPart")


class BadSize(HeedError):
    """Too few or too many things."""

    def __init__(self):
        HeedError.__init__(self, "BadSize")


class BadName(HeedError):
    """No name, or one that stood ahead."""

    def __init__(self, name):
        HeedError.__init__(self, "BadName", f": {name!r}")
        self.name = name


class BadRow(HeedError):
    """A stand's row that is not as it should be."""

    def __init__(self, at):
        HeedError.__init__(self, "BadRow", f": {at!r}")
        self.at = at


class Unreached(HeedError):
    """A stand that can't be come to from the first one."""

    def __init__(self, stand):
        HeedError.__init__(self, "Unreached", f": {stand!r}")
        self.stand = stand


class Heeds(HeedError):
    """Two letters whose order is not all one at a stand."""

    def __init__(self, stand, one, other):
        HeedError.__init__(self, "Heeds", f": {stand!r}, {one!r}, {other!r}")
        self.stand = stand
        self.one = one
        self.other = other


class BadText(HeedError):
    """A text that is no rules, from that place on."""

    def __init__(self, at):
        HeedError.__init__(self, "BadText", f": {at!r}")
        self.at = at


class BadCounts(HeedError):
    """Counts that are too few, too many or not let."""

    def __init__(self):
        HeedError.__init__(self, "BadCounts")


class BadMany(HeedError):
    """A number of letters or turns that is not let."""

    def __init__(self):
        HeedError.__init__(self, "BadMany")


class TooWide(HeedError):
    """A machine or web that has grown beyond its bound."""

    def __init__(self):
        HeedError.__init__(self, "TooWide")


class Unending(HeedError):
    """A web whose work doesn't always end."""

    def __init__(self):
        HeedError.__init__(self, "Unending")


class Gone(HeedError):
    """A stand that doesn't come again."""

    def __init__(self, stand):
        HeedError.__init__(self, "Gone", f": {stand!r}")
        self.stand = stand


class Unlike(HeedError):
    """Machines that can't stand for one another."""

    def __init__(self):
        HeedError.__init__(self, "Unlike")


class Working(HeedError):
    """A run in which something waits."""

    def __init__(self):
        HeedError.__init__(self, "Working")


class BadDeed(HeedError):
    """A deed of no form that there is."""

    def __init__(self, at):
        HeedError.__init__(self, "BadDeed", f": {at!r}")
        self.at = at


class Taken(HeedError):
    """A name that is in use."""

    def __init__(self, name):
        HeedError.__init__(self, "Taken", f": {name!r}")
        self.name = name


class Full(HeedError):
    """No room for one more name."""

    def __init__(self):
        HeedError.__init__(self, "Full")


class Lacking(LookupError):
    """What was asked for is not there."""

    def __init__(self, word="Lacking", about=""):
        LookupError.__init__(self, word + about)
        self.word = word


class NoStand(Lacking):
    """No such stand."""

    def __init__(self, stand):
        Lacking.__init__(self, "NoStand", f": {stand!r}")
        self.stand = stand


class NoLetter(Lacking):
    """No such letter."""

    def __init__(self, name):
        Lacking.__init__(self, "NoLetter", f": {name!r}")
        self.name = name


class NoOutlet(Lacking):
    """No such outlet."""

    def __init__(self, name):
        Lacking.__init__(self, "NoOutlet", f": {name!r}")
        self.name = name


class NoMachine(Lacking):
    """No such machine."""

    def __init__(self, name):
        Lacking.__init__(self, "NoMachine", f": {name!r}")
        self.name = name


class NoWeb(Lacking):
    """No such web."""

    def __init__(self, name):
        Lacking.__init__(self, "NoWeb", f": {name!r}")
        self.name = name


class NoRun(Lacking):
    """No such run."""

    def __init__(self, name):
        Lacking.__init__(self, "NoRun", f": {name!r}")
        self.name = name


class NoneWaits(Lacking):
    """No such letter waits at the machine."""

    def __init__(self, name, letter):
        Lacking.__init__(self, "NoneWaits", f": {name!r}, {letter!r}")
        self.name = name
        self.letter = letter


class NotHanded(Lacking):
    """Letters that were not handed can't be taken back."""

    def __init__(self):
        Lacking.__init__(self, "NotHanded")


class NothingLeft(Lacking):
    """No step to undo or to do again."""

    def __init__(self):
        Lacking.__init__(self, "NothingLeft")
