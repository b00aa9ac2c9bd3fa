"""Machines with a stack: what they take, and machines and readers made into each other."""

from archway.bits import bits_of, numbers_of
from archway.errors import TooManySteps
from archway.readers import MOST_VALUES
from archway.values import made_reader

MOST_STEPS = 4000


def configurations(machine, row):
    """Return, for each number of places, the configurations in which the machine can then be."""
    steps = MachineSteps(machine)
    found = [[(state, ()) for state in machine[1]]]
    for place in row:
        found.append(steps.after(found[-1], place))
    return found


def takes(machine, text):
    """Tell whether the machine takes a text."""
    _, firsts, _, _, _, lasts = machine
    return _leads(_stretch_table(StretchTables(machine), text), firsts, bits_of(lasts))


def table_of(machine, text):
    """Return the table of a balanced text."""
    table = _stretch_table(StretchTables(machine), text)
    return tuple([tuple(numbers_of(states)) for states in table])


def machine_reader(labels, machine):
    """Return the reader of a machine for these labels."""
    _, firsts, _, _, _, lasts = machine
    tables = StretchTables(machine)
    accepting = bits_of(lasts)

    def mul(x, y):
        return tables.one_behind_the_other(x, y)

    def wrap(a, b, x):
        return tables.around(a, b, x)

    def accepts(x):
        return _leads(x, firsts, accepting)

    letters = [tables.letter(a) for a in range(labels[0])]
    return made_reader((labels, tables.empty, letters, mul, wrap, accepts), MOST_VALUES)


def machine_for(reader):
    """Return the machine of a reader."""
    labels, empty, letters, mul, wrap, accepted = reader
    numbers = range(len(mul))
    _, calls, returns = labels
    many = len(mul) * (len(letters) + calls + calls * returns * len(mul))
    if many > MOST_STEPS:
        raise TooManySteps(f"a machine would have more than {MOST_STEPS} steps")
    letter_steps = [(v, a, mul[v][letter]) for v in numbers for a, letter in enumerate(letters)]
    call_steps = [(v, a, empty, v * calls + a) for v in numbers for a in range(calls)]
    return_steps = [
        (u, v * calls + a, b, mul[v][around])
        for v in numbers for a in range(calls) for b in range(returns) for u, around in enumerate(wrap[a][b])
    ]
    return (len(mul), (empty,), tuple(letter_steps), tuple(call_steps), tuple(return_steps), accepted)


def is_deterministic(machine):
    """Tell whether the machine never has a choice."""
    _, firsts, letters, calls, returns, _ = machine
    return (
        len(firsts) <= 1
        and _are_different([(p, a) for p, a, _ in letters])
        and _are_different([(p, a) for p, a, _, _ in calls])
        and _are_different([(p, sign, b) for p, sign, b, _ in returns])
    )


def _are_different(keys):
    """Tell whether no key stands twice in a list."""
    return len(set(keys)) == len(keys)


def _leads(table, firsts, lasts):
    """Tell whether a table leads from one of the first states to one of the last ones."""
    return any([(table[state] & lasts) != 0 for state in firsts])


def _stretch_table(tables, text):
    """Return the table of a balanced text."""
    around = []
    found = tables.empty
    for kind, label in text:
        if kind == "call":
            around.append((label, found))
            found = tables.empty
        elif kind == "letter":
            found = tables.one_behind_the_other(found, tables.letter(label))
        else:
            call_label, ahead = around.pop()
            found = tables.one_behind_the_other(ahead, tables.around(call_label, label, found))
    return found


class MachineSteps:
    """The steps of a machine, by what they need: a state, a label and, for a return, a sign."""

    def __init__(self, machine):
        _, _, letters, calls, returns, _ = machine
        self.letters = {}
        for p, a, q in letters:
            self.letters.setdefault((p, a), []).append(q)
        self.calls = {}
        for p, a, q, sign in calls:
            self.calls.setdefault((p, a), []).append((q, sign))
        self.returns = {}
        for p, sign, b, q in returns:
            self.returns.setdefault((p, sign, b), []).append(q)

    def after(self, before, place):
        """Return the configurations behind a place, in ascending order."""
        # The keys are the configurations: each one counts once.
        found = {}
        for configuration in before:
            for led in self.led_to(configuration, place):
                found[led] = True
        return sorted(found)

    def led_to(self, configuration, place):
        """Return the configurations to which a place leads one configuration."""
        state, signs = configuration
        kind, label = place
        if kind == "letter":
            return [(q, signs) for q in self.letters.get((state, label), [])]
        if kind == "call":
            return [(q, (*signs, sign)) for q, sign in self.calls.get((state, label), [])]
        if not signs:
            return []
        return [(q, signs[:-1]) for q in self.returns.get((state, signs[-1], label), [])]


class StretchTables:
    """The tables of the stretches of texts for one machine.

    A table is a tuple with a set of states for each state. Sets are integers (see `archway.bits`).
    """

    def __init__(self, machine):
        states, _, letters, calls, returns, _ = machine
        self.states = states
        self.empty = tuple([1 << state for state in range(states)])
        # The table of each letter.
        self.letters = {}
        for p, a, q in letters:
            table = self.letters.setdefault(a, [0] * states)
            table[p] |= 1 << q
        # From which state each call leads to which state, with which sign.
        self.calls = {}
        for p, a, q, sign in calls:
            self.calls.setdefault(a, []).append((p, q, sign))
        # For each sign and return: to which states it leads each state.
        self.returns = {}
        for p, sign, b, q in returns:
            table = self.returns.setdefault((sign, b), [0] * states)
            table[p] |= 1 << q

    def letter(self, a):
        """Return the table of a letter."""
        return tuple(self.letters.get(a, [0] * self.states))

    def one_behind_the_other(self, x, y):
        """Return the table of two stretches."""
        return tuple([led_by(y, states) for states in x])

    def around(self, a, b, x):
        """Return the table of a call, a stretch with this table, and a return."""
        found = [0] * self.states
        for p, q, sign in self.calls.get(a, []):
            if (sign, b) in self.returns:
                found[p] |= led_by(self.returns[sign, b], x[q])
        return tuple(found)


def led_by(table, states):
    """Return the set of states to which a table leads a set of states."""
    found = 0
    for state in numbers_of(states):
        found |= table[state]
    return found
