"""Rules by which letters are sent, their texts, and the machines that send so."""

from heedless.errors import BadCounts, BadSize, TooWide
from heedless.likes import least_rows
from heedless.machines import LETTERS, STANDS, Machine, added, explored, refuse_counts
from heedless.texts import Reader

RULES = 12
EVERY = 6
AFTER = 12
MANY = 4
TIMES = 6
LISTS = 400
ROW_COUNTS = 4
ROW_MOST = 2
KEPT_WORDS = ("each", "after", "with", "gives", "at", "most")


def read_pair(reader, last):
    """A name above the last one and its number, which is left out where it is 1."""
    name = reader.name_above(last, KEPT_WORDS)
    if reader.coming()[:1].isdigit():
        return name, reader.number(2, MANY)
    return name, 1


def read_pairs(reader):
    """Pairs of a name and a number, with commas between, names rising."""
    pairs = [read_pair(reader, "")]
    while reader.takes(","):
        pairs.append(read_pair(reader, pairs[-1][0]))
    return tuple(pairs)


def read_rule(reader):
    """The rule that comes."""
    reader.one_of(["each"])
    every = reader.number(1, EVERY)
    after = 0
    if reader.takes("after"):
        after = reader.number(1, AFTER)
    reader.one_of(["with"])
    weights = read_pairs(reader)
    reader.one_of(["gives"])
    gives = read_pairs(reader)
    most = None
    if reader.takes("at"):
        reader.one_of(["most"])
        most = reader.number(1, TIMES)
    return "each", every, after, weights, gives, most


def read_rules(text):
    """The rules that a text says."""
    reader = Reader(text)
    rules = [read_rule(reader)]
    while reader.coming() != "":
        if len(rules) == RULES:
            reader.refuse()
        reader.one_of([";"])
        rules.append(read_rule(reader))
    if len(letters_of(rules)) > LETTERS or len(outlets_of(rules)) > LETTERS:
        raise BadSize()
    return rules


def pairs_text(pairs):
    """Pairs as a text; a number 1 is left out."""
    return ", ".join([name if many == 1 else f"{name} {many}" for name, many in pairs])


def rule_text(rule):
    """A rule as a text."""
    word, every, after, weights, gives, most = rule
    behind = "" if after == 0 else f" after {after}"
    bound = "" if most is None else f" at most {most}"
    return f"{word} {every}{behind} with {pairs_text(weights)} gives {pairs_text(gives)}{bound}"


def rules_text(rules):
    """Rules as a text that read_rules takes."""
    return "; ".join([rule_text(rule) for rule in rules])


def letters_of(rules):
    """All letters of rules, rising."""
    return sorted({name for word, every, after, weights, gives, most in rules for name, weight in weights})


def outlets_of(rules):
    """All outlets of rules, rising."""
    return sorted({name for word, every, after, weights, gives, most in rules for name, many in gives})


def weight_in(rule, letter):
    """The weight of a letter by a rule, nought where the rule doesn't name it."""
    return dict(rule[3]).get(letter, 0)


def times_sent(rule, number):
    """How many times a rule has sent its gives where its weights have come to a number."""
    word, every, after, weights, gives, most = rule
    if number < after:
        return 0
    often = (number - after) // every
    return often if most is None else min(often, most)


def sent_at(rules, numbers):
    """What rules have sent at each outlet where their weights have come to these numbers."""
    outlets = outlets_of(rules)
    sent = [0 for outlet in outlets]
    for rule, number in zip(rules, numbers):
        gives = dict(rule[4])
        often = times_sent(rule, number)
        sent = added(sent, [often * gives.get(outlet, 0) for outlet in outlets])
    return sent


def sent_by(rules, counts):
    """What rules send at each outlet of counts of letters."""
    letters = letters_of(rules)
    refuse_counts(counts, len(letters))
    return sent_at(rules, [sum([weight_in(rule, letter) * many for letter, many in zip(letters, counts)])
                           for rule in rules])


def brought_down(rule, number):
    """The number at which a rule stands where its weights have come to a number."""
    word, every, after, weights, gives, most = rule
    if most is not None:
        return min(number, after + every * most)
    if number < after + every:
        return number
    return after + (number - after) % every


def step_by(rules, numbers, letter):
    """The numbers at which rules stand behind a letter, and what it sends."""
    more = [number + weight_in(rule, letter) for rule, number in zip(rules, numbers)]
    sends = [late - early for late, early in zip(sent_at(rules, more), sent_at(rules, numbers))]
    return tuple([brought_down(rule, number) for rule, number in zip(rules, more)]), tuple(sends)


def rows_by(rules):
    """Rows of which each stand is a list of the rules' numbers; TooWide where there are too many."""
    first = tuple([0 for rule in rules])
    return explored(first, lambda numbers, letter: step_by(rules, numbers, letter), letters_of(rules), LISTS)


def machine_by(rules):
    """The least machine that sends as rules do."""
    least, places = least_rows(rows_by(rules))
    if len(least) > STANDS:
        raise TooWide()
    return Machine(letters_of(rules), outlets_of(rules), least)


def refuse_row(early, later):
    """BadCounts where early and later counts are no row."""
    if len(early) > ROW_COUNTS or not 1 <= len(later) <= ROW_COUNTS:
        raise BadCounts()
    counts = list(early) + list(later)
    if any([not 0 <= many <= ROW_MOST for many in counts]) or sum(counts) == 0:
        raise BadCounts()


def row_rule(every, after, many, most):
    """A rule by which many go out at every so many letters a."""
    return "each", every, after, (("a", 1),), (("c", many),), most


def rules_for(early, later):
    """Rules that send early counts at the first letters, and behind these the later ones over and over."""
    refuse_row(early, later)
    # The first lap of the later counts is told like the early ones, for a rule with
    # as long an every as the lap first sends when a lap beyond its after is done.
    once = list(early) + list(later)
    rules = [row_rule(1, at, many, 1) for at, many in enumerate(once) if many > 0]
    lap = len(later)
    return rules + [row_rule(lap, len(early) + at + 1, many, None) for at, many in enumerate(later) if many > 0]
