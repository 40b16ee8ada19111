"""A web as one machine."""

from heedless.errors import BadSize, TooWide
from heedless.machines import LETTERS, MOST, STANDS, Machine, explored, refuse_names
from heedless.runs import Plan, kind_at


def worked(plan, stands, kind):
    """The stands at rest behind one letter of the kind at a place, and what it sends through each door."""
    handed = [1 if at == kind else 0 for at in range(len(plan.spots))]
    counts, ends, sent = plan.till_rest(stands, handed)
    if any([many > MOST for many in sent]):
        raise TooWide()
    return tuple(ends), tuple(sent)


def whole_rows(plan, kinds):
    """The rows of a web as one machine, with a letter for the kind at each of these places."""
    return explored(tuple(plan.first_stands), lambda stands, kind: worked(plan, stands, kind), kinds, STANDS)


def whole_of(web, ways):
    """The machine that a web is, with a letter for each way and an outlet for each door."""
    if not 1 <= len(ways) <= LETTERS:
        raise BadSize()
    letters = [own for own, name, letter in ways]
    refuse_names(letters)
    kinds = [kind_at(web, name, letter) for own, name, letter in ways]
    plan = Plan(web)
    plan.refuse_unending()
    return Machine(letters, web.doors(), whole_rows(plan, kinds))
