"""Webs: machines by names, and threads from their outlets to letters and doors."""

from heedless.errors import BadName, BadSize, NoLetter, NoMachine, NoOutlet, Taken
from heedless.machines import is_name, refuse_names
from heedless.order import rates_of
from heedless.parts import total

MACHINES = 4
KINDS = 8
DOORS = 3


def refuse_machine(held, name):
    """NoMachine where none of the machines by names is called so."""
    if name not in held:
        raise NoMachine(name)


def refuse_outlet(held, name, outlet):
    """NoMachine, or NoOutlet where the machine has no such outlet."""
    refuse_machine(held, name)
    if outlet not in held[name].outlets():
        raise NoOutlet(outlet)


def is_to_door(thread):
    """Whether a thread leads to a door, not to a machine's letter."""
    return len(thread) == 3


def goal_by(held, thread):
    """Where a thread leads: a kind, or a door's name."""
    if is_to_door(thread):
        if not is_name(thread[2]):
            raise BadName(thread[2])
        return thread[2]
    start, outlet, name, letter = thread
    refuse_machine(held, name)
    if letter not in held[name].letters():
        raise NoLetter(letter)
    return name, letter


def goals_by(held, threads):
    """Where each outlet leads that has a thread, by pairs (machine, outlet)."""
    goals = {}
    for thread in threads:
        name, outlet = thread[0], thread[1]
        refuse_outlet(held, name, outlet)
        if (name, outlet) in goals:
            raise Taken(outlet)
        goals[(name, outlet)] = goal_by(held, thread)
    return goals


class Web:
    """Machines and threads between them; it never changes once it is made."""

    def __init__(self, machines, threads):
        if not 1 <= len(machines) <= MACHINES:
            raise BadSize()
        refuse_names([name for name, machine in machines])
        handed = {name: machine for name, machine in machines}
        # A Machine never changes, so it may be held itself.
        self.held = {name: handed[name] for name in sorted(handed)}
        self.goals = goals_by(self.held, threads)
        self.all_threads = tuple(sorted([tuple(thread) for thread in threads]))
        self.all_kinds = tuple([(name, letter) for name in self.held for letter in self.held[name].letters()])
        self.all_doors = tuple(sorted({thread[2] for thread in self.all_threads if is_to_door(thread)}))
        if len(self.all_kinds) > KINDS or len(self.all_doors) > DOORS:
            raise BadSize()

    def names(self):
        """The machines' names, rising."""
        return list(self.held)

    def machine(self, name):
        """The machine of a name."""
        refuse_machine(self.held, name)
        return self.held[name]

    def threads(self):
        """The threads, rising."""
        return list(self.all_threads)

    def kinds(self):
        """The pairs (machine, letter), machines by rising names, letters in their order."""
        return list(self.all_kinds)

    def doors(self):
        """The doors' names, rising."""
        return list(self.all_doors)

    def goal(self, name, outlet):
        """The kind or the door's name to which an outlet's thread leads, or None."""
        refuse_outlet(self.held, name, outlet)
        return self.goals.get((name, outlet))

    def square(self):
        """For each kind that comes a list of the rates at which it comes of each kind."""
        return self.rates_to(self.all_kinds)

    def door_rates(self):
        """For each door a list of the rates at which letters are sent there of each kind."""
        return self.rates_to(self.all_doors)

    def rates_to(self, goals):
        """For each of these goals a list of the rates at which letters come there of each kind."""
        lines = [(name, self.held[name].outlets(), rates) for name in self.held for rates in rates_of(self.held[name])]
        return [[total([rate for outlet, rate in zip(outlets, rates) if self.goals.get((name, outlet)) == goal])
                 for name, outlets, rates in lines] for goal in goals]

    def __len__(self):
        return len(self.all_kinds)

    def __eq__(self, other):
        return isinstance(other, Web) and self.held == other.held and self.all_threads == other.all_threads

    def __repr__(self):
        return f"Web({len(self.held)} machines, {len(self.all_kinds)} kinds, {len(self.all_doors)} doors)"
