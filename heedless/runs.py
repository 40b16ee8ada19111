"""Runs of webs: letters that wait, turns, work, what settles, and taking back."""

from heedless.ending import common_multiple, inverse_of, wholes
from heedless.errors import BadMany, NoLetter, NoneWaits, NotHanded, TooWide, Unending, Unlike, Working
from heedless.likes import least_of
from heedless.machines import added, refuse_counts
from heedless.order import coming_again, purses_of
from heedless.parts import total
from heedless.webs import Web

LONG = 20000
MANY = 999
HANDED = 9999
STATES = 400


def kind_at(web, machine, letter):
    """The place of a kind among the kinds of a web; NoMachine, NoLetter."""
    if letter not in web.machine(machine).letters():
        raise NoLetter(letter)
    return web.kinds().index((machine, letter))


def leads_of(web, name):
    """Pairs of an outlet's place and the place, among kinds and then doors, to which its thread leads."""
    goals = web.kinds() + web.doors()
    ends = [web.goal(name, outlet) for outlet in web.machine(name).outlets()]
    return [(at, goals.index(end)) for at, end in enumerate(ends) if end is not None]


def taken_off(one, other):
    """A list of numbers less another, place by place."""
    return [first - second for first, second in zip(one, other)]


def least_by_places(lines):
    """The least number at each place of lists that are as long as one another."""
    return [min([line[at] for line in lines]) for at in range(len(lines[0]))]


def gaps_of(machine, purses, scale):
    """For each stand and outlet how far its purse, times a scale, is above the least that may yet come."""
    lines = [wholes(line, scale) for line in purses]
    again = coming_again(machine)
    least = least_by_places(lines)
    least_again = least_by_places([lines[stand] for stand in again])
    # Only stands that come again come behind one that does.
    return [taken_off(line, least_again if stand in again else least) for stand, line in enumerate(lines)]


class Leap:
    """Tells, for a web whose work always ends, how many turns must come at the least."""

    def __init__(self, plan, inverse):
        purses = plan.purses()
        self.scale = common_multiple([under for lines in purses for line in lines for over, under in line])
        self.gaps = [gaps_of(machine, lines, self.scale) for machine, lines in zip(plan.members, purses)]
        self.under = common_multiple([under for row in inverse for over, under in row])
        self.inverse = [wholes(row, self.under) for row in inverse]
        self.leads = plan.leads

    def fewest(self, stands, over):
        """Numbers by kinds, below nought too: from these stands, with so much over, no fewer turns come."""
        # The turns till rest, less the square times them, are what is over, and the purses of
        # the stands at rest, less those of these stands: the inverse times that. The inverse
        # has nothing below nought, so the least purses that may come there tell the least turns.
        drawn = [self.scale * more for more in over]
        for gaps, leads, stand in zip(self.gaps, self.leads, stands):
            for outlet, goal in leads:
                if goal < len(drawn):
                    drawn[goal] -= gaps[stand][outlet]
        whole = self.under * self.scale
        return [-(-sum([rate * more for rate, more in zip(row, drawn)]) // whole) for row in self.inverse]


class Plan:
    """A web's machines, kinds and threads by their places; what it tells never changes."""

    def __init__(self, web):
        names = web.names()
        self.planned = web
        self.members = [web.machine(name) for name in names]
        self.tables = [machine.rows() for machine in self.members]
        self.spots = [(names.index(name), web.machine(name).letters().index(letter)) for name, letter in web.kinds()]
        self.leads = [leads_of(web, name) for name in names]
        self.first_stands = [0 for name in names]
        self.first_flow = [0 for goal in web.kinds() + web.doors()]
        # Reckoned when first asked for, as most runs never ask.
        self.made_purses = None
        self.made_leap = None

    def purses(self):
        """The purses of each machine."""
        if self.made_purses is None:
            self.made_purses = [purses_of(machine) for machine in self.members]
        return self.made_purses

    def leap(self):
        """The web's Leap, or None where some work never ends."""
        if self.made_leap is None:
            inverse = inverse_of(self.planned)
            self.made_leap = None if inverse is None else Leap(self, inverse)
        return self.made_leap

    def refuse_unending(self):
        """Unending where the web's work doesn't always end."""
        if self.leap() is None:
            raise Unending()

    def behind(self, stands, counts):
        """The stands behind so many turns of each kind, and what came to each kind and then door."""
        ends = []
        flow = list(self.first_flow)
        for place, machine in enumerate(self.members):
            own = [many for many, (member, letter) in zip(counts, self.spots) if member == place]
            end, sends = machine.moved(own, stand=stands[place])
            ends.append(end)
            for outlet, goal in self.leads[place]:
                flow[goal] += sends[outlet]
        return ends, flow

    def till_rest(self, stands, waiting):
        """The turns of each kind till rest, the stands there, and what came through each door."""
        # No counts told on the way are above the turns till rest: what so many turns make come
        # must be taken too. So the first counts that settle are these turns.
        leap = self.leap()
        counts = list(waiting)
        while True:
            ends, flow = self.behind(stands, counts)
            over = [wait + more - many for wait, more, many in zip(waiting, flow, counts)]
            if not any([more > 0 for more in over]):
                return counts, ends, flow[len(counts):]
            fewest = over if leap is None else leap.fewest(ends, over)
            counts = [many + max(0, more, low) for many, more, low in zip(counts, over, fewest)]

    def often_again(self):
        """How often a letter of each kind, handed and worked, first leads to the first stands again, or None."""
        self.refuse_unending()
        states = 1
        for machine in self.members:
            states *= len(machine)
        if states > STATES:
            raise TooWide()
        # Where any letters lead back to the first stands, and letters of each kind are among
        # them, no two of the stands that are come to are led to one: so these letters, over
        # and over, meet no stands again ahead of the first ones.
        met = set()
        stands = self.first_stands
        while tuple(stands) not in met:
            met.add(tuple(stands))
            counts, stands, sent = self.till_rest(stands, [1 for kind in self.spots])
        return len(met) if stands == self.first_stands else None


def first_again(web):
    """Whether a web's first stand comes again."""
    return Plan(web).often_again() is not None


def refuse_many(many):
    """BadMany where so many letters can't be handed or taken back at once."""
    if not 1 <= many <= MANY:
        raise BadMany()


class Run:
    """A web at work: its stands, what waits, what was taken, handed and sent."""

    def __init__(self, web):
        self.plan = Plan(web)
        self.now = list(self.plan.first_stands)
        # What waits by kinds, and behind that what was sent by doors.
        self.flow = list(self.plan.first_flow)
        self.taken = [0 for kind in self.plan.spots]
        self.given = [0 for kind in self.plan.spots]

    def web(self):
        """The web that runs."""
        return self.plan.planned

    def hand(self, machine, letter, *, many=1):
        """Hands so many letters to a machine."""
        kind = kind_at(self.plan.planned, machine, letter)
        refuse_many(many)
        if self.given[kind] + many > HANDED:
            raise BadMany()
        self.given[kind] += many
        self.flow[kind] += many

    def turn(self, machine, letter):
        """Takes one letter that waits."""
        kind = kind_at(self.plan.planned, machine, letter)
        if self.flow[kind] == 0:
            raise NoneWaits(machine, letter)
        self.take(kind)

    def take(self, kind):
        """Takes one letter of the kind at a place, which waits."""
        member, place = self.plan.spots[kind]
        self.now[member], sends = self.plan.tables[member][self.now[member]][place]
        self.taken[kind] += 1
        self.flow[kind] -= 1
        for outlet, goal in self.plan.leads[member]:
            self.flow[goal] += sends[outlet]

    def work(self, *, most=LONG, row=()):
        """Does turns until nothing waits, or most are done, and tells how many."""
        if not 0 <= most <= LONG or any([number < 0 for number in row]):
            raise BadMany()
        done = 0
        while done < most:
            there = [kind for kind, many in enumerate(self.waiting()) if many > 0]
            if len(there) == 0:
                break
            self.take(there[row[done] % len(there) if done < len(row) else 0])
            done += 1
        return done

    def back(self, machine, letter, *, many=1):
        """Takes so many letters back, as if they had never been handed."""
        kind = kind_at(self.plan.planned, machine, letter)
        refuse_many(many)
        if self.given[kind] - many < -HANDED:
            raise BadMany()
        if not self.resting():
            raise Working()
        left = list(self.given)
        left[kind] -= many
        spare = self.spare_for(left)
        # Counts that lead the first stands to themselves, handed beforehand, keep all counts
        # from being below nought; their own turns and sends are then taken off again.
        turns, stands, sent = self.plan.till_rest(self.plan.first_stands, [more + spare for more in left])
        spent, first, lost = self.plan.till_rest(self.plan.first_stands, [spare for more in left])
        self.now = stands
        self.taken = taken_off(turns, spent)
        self.flow = [0 for more in left] + taken_off(sent, lost)
        self.given = left

    def spare_for(self, counts):
        """How many letters of each kind lead the first stands to themselves and outweigh counts below nought."""
        if not any([many < 0 for many in counts]):
            return 0
        often = self.plan.often_again()
        if often is None:
            raise NotHanded()
        return often * -(min(counts) // often)

    def swap(self, name, machine):
        """Changes a part for a machine that does the same, at the least stand that does the same."""
        web = self.plan.planned
        least, places = least_of(web.machine(name))
        other, others = least_of(machine)
        if least != other:
            raise Unlike()
        machines = [(part, machine if part == name else web.machine(part)) for part in web.names()]
        member = web.names().index(name)
        self.plan = Plan(Web(machines, web.threads()))
        self.now[member] = others.index(places[self.now[member]])

    def stands(self):
        """The stands of the machines, by rising names."""
        return list(self.now)

    def waiting(self):
        """How many letters wait, by kinds."""
        return self.flow[:len(self.taken)]

    def tally(self):
        """How many letters were taken, by kinds."""
        return list(self.taken)

    def handed(self):
        """How many letters were handed, by kinds."""
        return list(self.given)

    def sent(self):
        """How many letters were sent, by doors."""
        return self.flow[len(self.taken):]

    def resting(self):
        """Whether nothing waits."""
        return not any([many > 0 for many in self.waiting()])

    def purses_here(self):
        """What the purses of the present stands come to, by kinds and then doors."""
        held = [[] for goal in self.flow]
        for purses, leads, stand in zip(self.plan.purses(), self.plan.leads, self.now):
            for outlet, goal in leads:
                held[goal].append(purses[stand][outlet])
        return [total(line) for line in held]

    def purse(self):
        """What the purses of the present stands come to for the threads that lead to each kind."""
        return self.purses_here()[:len(self.taken)]

    def door_purse(self):
        """What the purses of the present stands come to for the threads that lead to each door."""
        return self.purses_here()[len(self.taken):]

    def comes(self, counts):
        """What would come to each kind if so many of each kind were taken from the present stands."""
        refuse_counts(counts, len(self.taken))
        return self.plan.behind(self.now, counts)[1][:len(self.taken)]

    def settles(self, counts):
        """Whether what waits, and what would come of counts, is nowhere more than these counts."""
        needed = added(self.waiting(), self.comes(counts))
        return not any([more > many for more, many in zip(needed, counts)])

    def to_rest(self):
        """The counts of turns till rest."""
        self.plan.refuse_unending()
        return self.plan.till_rest(self.now, self.waiting())[0]

    def twin(self):
        """Another run that is alike."""
        other = Run(self.plan.planned)
        other.plan = self.plan
        other.now = list(self.now)
        other.flow = list(self.flow)
        other.taken = list(self.taken)
        other.given = list(self.given)
        return other

    def __len__(self):
        return len(range(sum(self.flow[:len(self.taken)])))

    def __eq__(self, other):
        return (isinstance(other, Run) and self.plan.planned == other.plan.planned and self.now == other.now
                and self.flow == other.flow and self.taken == other.taken and self.given == other.given)

    def __repr__(self):
        return f"Run({len(self)} waiting, {sum(self.taken)} taken)"
