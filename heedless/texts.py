"""Texts as words, numbers and marks, taken one by one."""

from heedless.errors import BadText
from heedless.machines import is_name


def sign_group(sign):
    """What a sign can be in: a word, a number or a mark."""
    if "a" <= sign <= "z":
        return "word"
    if "0" <= sign <= "9":
        return "number"
    return "mark"


def piece_end(text, at):
    """Where the piece that begins at a place ends; a mark is one sign."""
    group = sign_group(text[at])
    end = at + 1
    while group != "mark" and end < len(text) and sign_group(text[end]) == group:
        end += 1
    return end


def pieces_of(text):
    """The words, numbers and marks of a text, as pairs (place, piece), and the end as an empty piece."""
    pieces = []
    at = 0
    while at < len(text):
        end = piece_end(text, at)
        if text[at] != " ":
            pieces.append((at, text[at:end]))
        at = end
    return pieces + [(len(text), "")]


class Reader:
    """Takes a text piece by piece, and refuses the first piece that can't stand where it stands."""

    def __init__(self, text):
        self.pieces = pieces_of(text)
        self.taken = 0

    def coming(self):
        """The piece that comes, empty at the end."""
        return self.pieces[self.taken][1]

    def refuse(self):
        """BadText at the piece that comes."""
        raise BadText(self.pieces[self.taken][0])

    def one_of(self, allowed):
        """Takes the piece that comes, which must be one of these."""
        piece = self.coming()
        if piece not in allowed:
            self.refuse()
        self.taken += 1
        return piece

    def takes(self, piece):
        """Whether this piece comes; it is then taken."""
        if self.coming() != piece:
            return False
        self.taken += 1
        return True

    def number(self, low, high):
        """Takes a number from low to high, as it is written without a needless nought."""
        return int(self.one_of([str(number) for number in range(low, high + 1)]))

    def name_above(self, last, kept):
        """Takes a name above the last one that is none of the kept words."""
        piece = self.coming()
        if not is_name(piece) or piece in kept or piece <= last:
            self.refuse()
        self.taken += 1
        return piece
