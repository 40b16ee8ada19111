"""[2] [8] [9] Rules as texts: what is written, what is read, and where it is refused."""

import inspect
import random
import re
import unittest

from heedless import rules as rules_module
from heedless.errors import BadSize, BadText
from heedless.rules import read_rules, rules_text
from samples import RefusalCase

FULL = "each 3 after 2 with a 2, b gives c 4, d at most 5"
FULL_RULE = ("each", 3, 2, (("a", 2), ("b", 1)), (("c", 4), ("d", 1)), 5)
PLAIN = "each 1 with a gives c"
PLAIN_RULE = ("each", 1, 0, (("a", 1),), (("c", 1),), None)
KEPT = ["each", "after", "with", "gives", "at", "most"]
NAMES = ["a", "b", "c", "z", "ab", "az", "zz", "abcdef", "zzzzzz", "eachx", "wit", "mosta", "atat"]


def random_pairs(chance, names):
    chosen = sorted(chance.sample(names, chance.randint(1, len(names))))
    return tuple((name, chance.choice([1, 1, 2, 3, 4])) for name in chosen)


def random_rule(chance, letters, outlets):
    return ("each", chance.randint(1, 6), chance.choice([0, 0, 1, 9, 10, 12, chance.randint(0, 12)]),
            random_pairs(chance, letters), random_pairs(chance, outlets), chance.choice([None, None, 1, 6, 3]))


def random_rules(chance, size=None):
    letters, outlets = chance.sample(NAMES, chance.randint(1, 3)), chance.sample(NAMES, chance.randint(1, 3))
    return [random_rule(chance, letters, outlets) for k in range(size or chance.randint(1, 12))]


def pieces_of(text):
    return [(found.start(), found.group()) for found in re.finditer("[a-z]+|[0-9]+|[^ ]", text)]


def spaced(chance, text):
    """The same rules with blanks put in and left out as they may be."""
    out = " " * chance.choice([0, 0, 1, 3])
    last = ""
    for at, piece in pieces_of(text):
        if last.isalpha() and piece.isalpha():
            out += " " * chance.choice([1, 1, 2, 4])
        else:
            out += " " * chance.choice([0, 0, 1, 2])
        out += piece
        last = piece
    return out + " " * chance.choice([0, 0, 1, 3])


# What may stand at each place of a rule, and what place comes behind it. A pair is a number
# from the one to the other; "name" is a name above the last one, "first" one that may be any.
PLACES = {
    "rule": {"each": "every"},
    "every": {(1, 6): "from"},
    "from": {"after": "after", "with": "letter first"},
    "after": {(1, 12): "with"},
    "with": {"with": "letter first"},
    "letter first": {"first": "weight"},
    "letter": {"name": "weight"},
    "weight": {(2, 4): "weighed", ",": "letter", "gives": "outlet first"},
    "weighed": {",": "letter", "gives": "outlet first"},
    "outlet first": {"first": "many"},
    "outlet": {"name": "many"},
    "many": {(2, 4): "given", ",": "outlet", "at": "at", ";": "rule", "end": "end"},
    "given": {",": "outlet", "at": "at", ";": "rule", "end": "end"},
    "at": {"most": "most"},
    "most": {(1, 6): "done"},
    "done": {";": "rule", "end": "end"},
}


def may_stand(token, piece, last):
    if isinstance(token, tuple):
        return re.fullmatch("[1-9][0-9]?", piece) is not None and token[0] <= int(piece) <= token[1]
    if token in ("name", "first"):
        above = token == "first" or piece > last
        return re.fullmatch("[a-z]{1,6}", piece) is not None and piece not in KEPT and above
    return piece == token and token != "end"


def refused_at(text):
    """Where a text is refused, or None, by the table alone."""
    place, last, rules = "rule", "", 0
    for at, piece in pieces_of(text):
        fitting = [token for token in PLACES[place] if may_stand(token, piece, last)]
        if not fitting or (piece == ";" and rules == 11):
            return at
        if fitting[0] in ("name", "first"):
            last = piece
        rules += piece == ";"
        place = PLACES[place][fitting[0]]
    return None if "end" in PLACES[place] else len(text)


def too_many_names(text):
    """Whether a text that is let has a fourth letter or outlet."""
    sides = {"with": set(), "gives": set()}
    side = None
    for at, piece in pieces_of(text):
        side = piece if piece in KEPT else side
        if piece not in KEPT and piece.isalpha():
            sides[side].add(piece)
    return any(len(names) > 3 for names in sides.values())


class WrittenTest(unittest.TestCase):
    def test_bound(self):
        self.assertEqual(rules_module.RULES, 12)

    def test_by_hand(self):
        self.assertEqual(rules_text([FULL_RULE]), FULL)
        self.assertEqual(rules_text([PLAIN_RULE]), PLAIN)
        self.assertEqual(rules_text([PLAIN_RULE, FULL_RULE, PLAIN_RULE]), f"{PLAIN}; {FULL}; {PLAIN}")
        self.assertEqual(rules_text((FULL_RULE, PLAIN_RULE)), f"{FULL}; {PLAIN}")

    def test_what_is_left_out_and_what_is_not(self):
        rule = ("each", 6, 12, (("a", 1),), (("a", 1),), 1)
        self.assertEqual(rules_text([rule]), "each 6 after 12 with a gives a at most 1")
        rule = ("each", 1, 1, (("a", 4), ("abcdef", 1), ("b", 2)), (("a", 3), ("z", 4)), 6)
        self.assertEqual(rules_text([rule]), "each 1 after 1 with a 4, abcdef, b 2 gives a 3, z 4 at most 6")

    def test_twelve(self):
        self.assertEqual(rules_text([PLAIN_RULE] * 12), "; ".join([PLAIN] * 12))
        self.assertEqual(read_rules("; ".join([PLAIN] * 12)), [PLAIN_RULE] * 12)


class ReadTest(unittest.TestCase):
    def test_by_hand(self):
        self.assertEqual(read_rules(FULL), [FULL_RULE])
        self.assertEqual(read_rules(PLAIN), [PLAIN_RULE])
        self.assertEqual(read_rules(f"{FULL}; {PLAIN}"), [FULL_RULE, PLAIN_RULE])

    def test_kinds_of_values(self):
        told = read_rules(FULL)
        self.assertIs(type(told), list)
        word, every, after, weights, gives, most = told[0]
        self.assertEqual([type(thing) for thing in (told[0], weights, gives, weights[0], gives[0])], [tuple] * 5)
        self.assertEqual([type(thing) for thing in (word, every, after, most)], [str, int, int, int])
        told.append(3)
        self.assertEqual(read_rules(FULL), [FULL_RULE])

    def test_each_bound_at_both_ends(self):
        for every in (1, 6):
            for after in (0, 1, 12):
                for many in (1, 2, 4):
                    for most in (None, 1, 6):
                        rules = [("each", every, after, (("a", many),), (("a", many), ("zzzzzz", 1)), most)]
                        self.assertEqual(read_rules(rules_text(rules)), rules)

    def test_blanks_by_hand(self):
        for text in ("each3after2with a2,b gives c4,d at most5", f"  {FULL}  ",
                     "each   3  after 2with   a 2 ,b  gives c 4  ,  d   at   most5 ",
                     "each 3after 2 with a2 , b gives c4, d at most 5"):
            self.assertEqual(read_rules(text), [FULL_RULE], text)
        for text in (f"{PLAIN};{FULL}", f"{PLAIN} ;{FULL}", f"{PLAIN}  ;  {FULL}", f" {PLAIN};   {FULL}   "):
            self.assertEqual(read_rules(text), [PLAIN_RULE, FULL_RULE], text)

    def test_read_what_was_written(self):
        chance = random.Random(12)
        for turn in range(600):
            rules = random_rules(chance, 1 + turn % 12)
            before = list(rules)
            text = rules_text(rules)
            self.assertEqual(rules, before)
            self.assertEqual(read_rules(text), rules)
            self.assertEqual(read_rules(spaced(chance, text)), rules)

    def test_arguments(self):
        self.assertEqual(list(inspect.signature(read_rules).parameters), ["text"])
        self.assertEqual(list(inspect.signature(rules_text).parameters), ["rules"])
        self.assertEqual(rules_text(rules=read_rules(text=FULL)), FULL)


class RefusedTest(RefusalCase):
    def bad(self, text, at):
        self.refused(BadText, {"at": at}, read_rules, text)
        self.assertEqual(refused_at(text), at)

    def bad_at(self, text):
        """Refused at the place of the sign ^, which is taken out ahead."""
        self.bad(text.replace("^", ""), text.index("^"))

    def test_ends_too_early(self):
        self.bad("", 0)
        self.bad("   ", 3)
        for text in ("each", "each 3", "each 3 after", "each 3 after 2", "each 3 with", "each 3 with a",
                     "each 3 with a 2", "each 3 with a,", "each 3 with a, b", "each 3 with a gives",
                     "each 3 with a gives c,", "each 3 with a gives c at", "each 3 with a gives c at most",
                     f"{PLAIN};", f"{PLAIN}; each"):
            self.bad(text, len(text))
            self.bad(text + "  ", len(text) + 2)

    def test_cut_off_anywhere(self):
        for text in (FULL, f"{PLAIN}; {FULL}"):
            for end in range(len(text)):
                cut = text[:end]
                at = refused_at(cut)
                if at is None:
                    self.assertEqual(rules_text(read_rules(cut)), cut.strip())
                else:
                    self.bad(cut, at)
        self.bad("eac", 0)
        self.bad("each 3 afte", 7)
        self.bad("each 3 after 2 with a 2, b giv", 27)

    def test_needless_words_that_are_left_out(self):
        self.bad_at("each 3 after ^0 with a gives c")
        self.bad_at("each 3 with a ^1 gives c")
        self.bad_at("each 3 with a 2, b ^1 gives c")
        self.bad_at("each 3 with a gives c ^1")
        self.bad_at("each 3 with a gives c 2, d ^1 at most 1")
        self.bad_at("each 3 after^0with a gives c")

    def test_needless_noughts(self):
        self.bad_at("each ^03 with a gives c")
        self.bad_at("each ^00 with a gives c")
        self.bad_at("each 3 after ^02 with a gives c")
        self.bad_at("each 3 after ^00 with a gives c")
        self.bad_at("each 3 with a ^02 gives c")
        self.bad_at("each 3 with a gives c ^04")
        self.bad_at("each 3 with a gives c at most ^05")
        self.bad_at("each 3 with a gives c at most ^005")

    def test_numbers_beyond_their_bounds(self):
        for number in (0, 7, 10, 11, 999999999, "9" * 1500):
            self.bad_at(f"each ^{number} with a gives c")
            self.bad_at(f"each 3 with a gives c at most ^{number}")
        for number in (0, 13, 20, 100, 112, "1" * 1500):
            self.bad_at(f"each 3 after ^{number} with a gives c")
        for number in (0, 1, 5, 10, 22, 444, "2" * 1500):
            self.bad_at(f"each 3 with a ^{number} gives c")
            self.bad_at(f"each 3 with a gives b, c ^{number}; each 1")

    def test_names_too_long(self):
        self.bad_at("each 3 with ^abcdefg gives c")
        self.bad_at("each 3 with a, ^zzzzzzz gives c")
        self.bad_at("each 3 with a gives ^ccccccc")
        self.bad_at("each 3 with a gives c, ^dddddddd at most 1")

    def test_names_not_above_the_one_ahead(self):
        self.bad_at("each 3 with a, ^a gives c")
        self.bad_at("each 3 with b, ^a gives c")
        self.bad_at("each 3 with a, b, ^ab gives c")
        self.bad_at("each 3 with ab 2, ^a gives c")
        self.bad_at("each 3 with a gives c 4, ^c 3")
        self.bad_at("each 3 with a gives b, d, ^c")
        self.bad_at("each 3 with zzzzzz, ^zzzzzz gives c")
        # Letters and outlets, and one rule and the next, have nothing to do with one another.
        self.assertEqual(read_rules("each 3 with b, c gives a, b; each 1 with a gives a")[1][3], (("a", 1),))

    def test_words_that_are_no_names(self):
        for word in KEPT:
            self.bad_at(f"each 3 with ^{word} gives c")
            self.bad_at(f"each 3 with a, ^{word} gives c")
            self.bad_at(f"each 3 with a gives ^{word}")
            self.bad_at(f"each 3 with a gives a, ^{word}")
        self.bad_at("each 3 with ^gives c")
        self.bad_at("each 3 with a gives ^at most 3")

    def test_other_words(self):
        self.bad_at("^Each 3 with a gives c")
        self.bad_at("^every 3 with a gives c")
        self.bad_at("^3 with a gives c")
        self.bad_at("^eacheach 3 with a gives c")
        self.bad_at("each ^with a gives c")
        self.bad_at("each 3 ^before 2 with a gives c")
        self.bad_at("each 3 after 2 ^after 2 with a gives c")
        self.bad_at("each 3 with a gives c ^most 3")
        self.bad_at("each 3 with a gives c at ^least 3")
        self.bad_at("each 3 with a gives c at ^3")
        self.bad_at("each 3 with a gives c at most 3 ^at most 3")
        self.bad_at("each 3 with a gives c at most 3^, d")
        self.bad_at("each 3 with a ^b gives c")
        self.bad_at("each 3 with a ^agives c")
        self.bad_at("each 3 with a gives c ^after 2")
        self.bad_at("each 3 with a gives c ^gives d")
        self.bad_at("each 3 with a 2 ^3 gives c")
        self.bad_at("each 3 ^3 with a gives c")

    def test_other_marks(self):
        for mark in "!#&()*+-./:<=>?@[]_`{|}~AZ'\"":
            self.bad_at(f"^{mark}{FULL}")
            self.bad_at(f"each 3^{mark}with a gives c")
            self.bad_at(f"each 3 with a^{mark} gives c")
            self.bad_at(f"each 3 with a gives c^{mark}")
        self.bad_at("each ^-3 with a gives c")
        self.bad_at("each 3^.0 with a gives c")
        self.bad_at("each 3 with a^B gives c")
        self.bad_at("each 3^, with a gives c")
        self.bad_at("each 3 with ^, a gives c")
        self.bad_at("each 3 with a,^, b gives c")
        self.bad_at("each 3 with a, ^gives c")
        self.bad_at("each 3 with a^; gives c")
        self.bad_at(f"^;{PLAIN}")
        self.bad_at(f"{PLAIN};^;{PLAIN}")
        self.bad_at(f"{PLAIN}; ^3")
        self.bad_at(f"{PLAIN} ^each 1 with a gives c")

    def test_thirteenth_rule(self):
        twelve = "; ".join([PLAIN] * 12)
        self.bad_at(f"{twelve}^; {PLAIN}")
        self.bad_at(f"{twelve} ^;")
        self.bad_at(f"{twelve} ^; !")
        self.bad_at(f"{twelve} ^!")

    def test_first_of_several(self):
        self.bad_at("each ^9 after 99 with A gives !")
        self.bad_at("each 3 after ^99 with A gives !")
        self.bad_at("each 3 with ^A gives !")

    def test_fourth_letter_or_outlet(self):
        for text in ("each 3 with a, b, c, d gives c", "each 3 with a gives c, d, e, f",
                     "each 3 with a, b gives c; each 3 with c, d gives c",
                     "each 3 with a gives c, d; each 1 with a gives a, c; each 1 with a gives z"):
            self.refused(BadSize, {}, read_rules, text)
        for text in ("each 3 with a, b, c gives d, e, f", "each 3 with a, b gives a, b; each 3 with c gives a, d"):
            self.assertEqual(rules_text(read_rules(text)), text)

    def test_bad_text_goes_ahead_of_bad_size(self):
        self.bad_at("each 3 with a, b, c, d gives c^!")
        self.bad_at("each 3 with a, b, c, d, e gives c, d, e, f; each 3 with a gives c ^1")
        text = "each 3 with a, b, c, d gives c;"
        self.bad(text, len(text))

    def test_made_texts_with_something_turned(self):
        chance = random.Random(4)
        told = {"refused": 0, "let": 0, "wide": 0}
        words = KEPT + NAMES + [",", ";", "0", "1", "2", "3", "4", "5", "6", "7", "12", "13", "02", "abcdefg", "!"]
        for turn in range(6000):
            text = rules_text(random_rules(chance, chance.randint(1, 3)))
            for again in range(chance.randint(1, 2)):
                text = self.turned(chance, text, words)
            self.like_the_table(text, told)
        self.assertGreater(min(told.values()), 20)

    def turned(self, chance, text, words):
        at = chance.randrange(len(text) + 1)
        pieces = pieces_of(text) or [(0, "each")]
        place, piece = chance.choice(pieces)
        sign = chance.choice("abegtz0123456789 ,;!A-  ")
        return chance.choice([
            text[:at] + sign + text[at:], text[:at] + text[at + 1:], text[:at] + sign + text[at + 1:], text[:at],
            text[:place] + text[place + len(piece):], text[:place] + chance.choice(words) + text[place + len(piece):],
            text[:place] + chance.choice(words) + " " + text[place:]])

    def like_the_table(self, text, told):
        at = refused_at(text)
        if at is not None:
            told["refused"] += 1
            self.refused(BadText, {"at": at}, read_rules, text)
        elif too_many_names(text):
            told["wide"] += 1
            self.refused(BadSize, {}, read_rules, text)
        else:
            told["let"] += 1
            written = [piece for place, piece in pieces_of(rules_text(read_rules(text)))]
            self.assertEqual(written, [piece for place, piece in pieces_of(text)])


if __name__ == "__main__":
    unittest.main()
