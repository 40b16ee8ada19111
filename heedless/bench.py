"""A bench, which keeps machines, webs and runs by names, and the steps by which they came about."""

from heedless.errors import BadDeed, BadName, Full, NoMachine, NoRun, NothingLeft, NoWeb, Taken
from heedless.machines import Machine, is_name
from heedless.rules import machine_by, read_rules
from heedless.runs import Run
from heedless.webs import Web
from heedless.whole import whole_of

NAMES = 6
SHELVES = ("machine", "web", "run")


def refuse_name(shelf, name):
    """BadName or Taken where nothing more can be kept by a name."""
    if not is_name(name):
        raise BadName(name)
    if name in shelf:
        raise Taken(name)


def put(shelf, name, thing):
    """Keeps a thing by a name, where there is room."""
    if len(shelf) >= NAMES:
        raise Full()
    shelf[name] = thing


def machine_on(shelves, name):
    """The machine of a name."""
    if name not in shelves["machine"]:
        raise NoMachine(name)
    return shelves["machine"][name]


def web_on(shelves, name):
    """The web of a name."""
    if name not in shelves["web"]:
        raise NoWeb(name)
    return shelves["web"][name]


def run_on(shelves, name):
    """A twin of the run of a name."""
    if name not in shelves["run"]:
        raise NoRun(name)
    return shelves["run"][name].twin()


def do_machine(shelves, deed):
    """Keeps a machine by its rows."""
    word, name, letters, outlets, rows = deed
    refuse_name(shelves["machine"], name)
    put(shelves["machine"], name, Machine(letters, outlets, rows))


def do_rules(shelves, deed):
    """Keeps the machine that a text's rules make."""
    word, name, text = deed
    refuse_name(shelves["machine"], name)
    put(shelves["machine"], name, machine_by(read_rules(text)))


def do_web(shelves, deed):
    """Keeps a web of machines that are on the bench."""
    word, name, parts, threads = deed
    refuse_name(shelves["web"], name)
    machines = [(part, machine_on(shelves, machine)) for part, machine in parts]
    put(shelves["web"], name, Web(machines, threads))


def do_whole(shelves, deed):
    """Keeps the machine that a web is."""
    word, name, web, ways = deed
    refuse_name(shelves["machine"], name)
    put(shelves["machine"], name, whole_of(web_on(shelves, web), ways))


def do_run(shelves, deed):
    """Keeps a new run of a web."""
    word, name, web = deed
    refuse_name(shelves["run"], name)
    put(shelves["run"], name, Run(web_on(shelves, web)))


def do_hand(shelves, deed):
    """Hands letters to a run."""
    word, name, machine, letter, many = deed
    run = run_on(shelves, name)
    run.hand(machine, letter, many=many)
    shelves["run"][name] = run


def do_turn(shelves, deed):
    """Does a turn of a run."""
    word, name, machine, letter = deed
    run = run_on(shelves, name)
    run.turn(machine, letter)
    shelves["run"][name] = run


def do_work(shelves, deed):
    """Does work of a run."""
    word, name, most, row = deed
    run = run_on(shelves, name)
    run.work(most=most, row=row)
    shelves["run"][name] = run


def do_back(shelves, deed):
    """Takes letters back from a run."""
    word, name, machine, letter, many = deed
    run = run_on(shelves, name)
    run.back(machine, letter, many=many)
    shelves["run"][name] = run


def do_swap(shelves, deed):
    """Changes a run's part for a machine that does the same."""
    word, name, part, machine = deed
    run = run_on(shelves, name)
    if part not in run.web().names():
        raise NoMachine(part)
    run.swap(part, machine_on(shelves, machine))
    shelves["run"][name] = run


def do_drop(shelves, deed):
    """Keeps a name's thing no longer."""
    word, kind, name = deed
    if kind == "machine" and name not in shelves[kind]:
        raise NoMachine(name)
    if kind == "web" and name not in shelves[kind]:
        raise NoWeb(name)
    if kind == "run" and name not in shelves[kind]:
        raise NoRun(name)
    del shelves[kind][name]


SIZES = {"machine": 5, "rules": 3, "web": 4, "whole": 4, "run": 3, "hand": 5, "turn": 4, "work": 4, "back": 5,
         "swap": 4, "drop": 3}
DOERS = {"machine": do_machine, "rules": do_rules, "web": do_web, "whole": do_whole, "run": do_run, "hand": do_hand,
         "turn": do_turn, "work": do_work, "back": do_back, "swap": do_swap, "drop": do_drop}


def has_form(deed):
    """Whether a deed is of a form that there is, by its first word and count, and drop's kind."""
    if len(deed) == 0 or deed[0] not in list(SIZES) or len(deed) != SIZES[deed[0]]:
        return False
    return deed[0] != "drop" or deed[1] in SHELVES


class Bench:
    """Machines, webs and runs by names; each step can be undone and done again."""

    def __init__(self):
        # What is on these shelves is never changed: each step makes new shelves, and a run
        # that goes on is a twin. So what is kept for undo stays as it was.
        self.shelves = {kind: {} for kind in SHELVES}
        self.before = []
        self.undone = []

    def do(self, deed):
        """Does one deed."""
        self.together([deed])

    def together(self, deeds):
        """Does deeds as one step: all or, where one is refused, none."""
        for at, deed in enumerate(deeds):
            if not has_form(deed):
                raise BadDeed(at)
        shelves = {kind: dict(self.shelves[kind]) for kind in SHELVES}
        for deed in deeds:
            doer = DOERS[deed[0]]
            doer(shelves, deed)
        if len(deeds) > 0:
            self.before.append(self.shelves)
            self.shelves = shelves
            self.undone = []

    def undo(self):
        """Undoes the last step."""
        if len(self.before) == 0:
            raise NothingLeft()
        self.undone.append(self.shelves)
        self.shelves = self.before.pop()

    def redo(self):
        """Does again the step that was undone last."""
        if len(self.undone) == 0:
            raise NothingLeft()
        self.before.append(self.shelves)
        self.shelves = self.undone.pop()

    def machines(self):
        """The machines' names, rising."""
        return sorted(self.shelves["machine"])

    def webs(self):
        """The webs' names, rising."""
        return sorted(self.shelves["web"])

    def runs(self):
        """The runs' names, rising."""
        return sorted(self.shelves["run"])

    def machine(self, name):
        """The machine of a name."""
        return machine_on(self.shelves, name)

    def web(self, name):
        """The web of a name."""
        return web_on(self.shelves, name)

    def run(self, name):
        """A twin of the run of a name."""
        return run_on(self.shelves, name)

    def twin(self):
        """Another bench that is alike, with all steps."""
        other = Bench()
        other.shelves = self.shelves
        other.before = list(self.before)
        other.undone = list(self.undone)
        return other

    def __len__(self):
        return len(self.shelves["run"])

    def __eq__(self, other):
        return isinstance(other, Bench) and self.shelves == other.shelves

    def __repr__(self):
        return f"Bench({len(self.machines())} machines, {len(self.webs())} webs, {len(self.runs())} runs)"
