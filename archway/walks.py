"""Readers made into sentences: walks through the values of a text, told by sets of its places."""

from archway.errors import TooManyLines

MOST_WALK_LINES = 4000


def walk_for(reader):
    """Return the walk of a reader as a tuple of lines."""
    layout = WalkLayout(reader)
    layout.walk()
    return tuple(layout.lines)


def sentence_for(reader):
    """Return the sentence of a reader as a tuple of lines."""
    _, empty, _, mul, _, accepted = reader
    layout = WalkLayout(reader)
    not_empty = layout.line("denied", layout.line("nothing"))
    there = layout.walk()
    for _ in range(2 * len(mul)):
        there = layout.line("there", there)
    if empty in accepted:
        layout.line("denied", layout.line("both", not_empty, layout.line("denied", there)))
    else:
        layout.line("both", not_empty, there)
    return tuple(layout.lines)


def sets_for(reader, text):
    """Return the list of the sets that tell the values and the inner values of a text."""
    _, empty, letters, mul, wrap, _ = reader
    sets = [[] for _ in range(2 * len(mul))]
    around = []
    found = empty
    for place, (kind, label) in enumerate(text):
        if kind == "call":
            sets[found].append(place)
            around.append((label, found))
            found = empty
        elif kind == "letter":
            found = mul[found][letters[label]]
            sets[found].append(place)
        else:
            sets[len(mul) + found].append(place)
            call_label, ahead = around.pop()
            found = mul[ahead][wrap[call_label][label][found]]
            sets[found].append(place)
    return sets


class WalkLayout:
    """The lines of the walk of a reader, laid out one behind the other.

    Each method lays out a part of the walk behind the lines that are there, and returns the number
    of its last line. Where it is passed parts, they have just been laid out, in their order.
    """

    def __init__(self, reader):
        self.labels, self.empty, self.letters, self.mul, self.wrap, self.accepted = reader
        self.lines = []

    def line(self, name, *numbers):
        """Lay out one line; the parts that it names are there."""
        if len(self.lines) == MOST_WALK_LINES:
            raise TooManyLines(f"a sentence would have more than {MOST_WALK_LINES} lines")
        self.lines.append((name, *numbers))
        return len(self.lines) - 1

    def always(self):
        """Lay out YES, which is true of every place."""
        inside = self.line("set", 0)
        return self.line("not", self.line("and", inside, self.line("not", self.line("set", 0))))

    def all_of(self, parts):
        """Lay out ALL of parts that are there."""
        found = self.always()
        for part in reversed(parts):
            found = self.line("and", part, found)
        return found

    def any_of(self, name, numbers):
        """Lay out ANY of the lines with this name and these numbers."""
        denials = [self.line("not", self.line(name, number)) for number in numbers]
        found = self.line("not", self.always())
        for denial in reversed(denials):
            found = self.line("not", self.line("and", denial, self.line("not", found)))
        return found

    def implied(self, condition, consequence):
        """Lay out IF of two parts that are there."""
        return self.line("not", self.line("and", condition, self.line("not", consequence)))

    def any_call(self):
        """Lay out CALL, which is true of every call."""
        return self.any_of("call", list(range(self.labels[1])))

    def behind(self, u):
        """Lay out BEHIND of a value, which is true of the places that may follow on it."""
        letters, calls, returns = self.labels
        parts = []
        for a in range(letters):
            parts.append(self.implied(self.line("letter", a), self.line("set", self.mul[u][self.letters[a]])))
        for a in range(calls):
            parts.append(self.implied(self.line("call", a), self.line("set", u)))
        for b in range(returns):
            parts.append(self.implied(self.line("return", b), self.line("set", len(self.mul) + u)))
        return self.all_of(parts)

    def walk(self):
        """Lay out the walk."""
        parts = [self.one_value()]
        parts.append(self.line("first", self.behind(self.empty)))
        parts.append(self.line("next", self.any_call(), self.behind(self.empty)))
        parts.append(self.line("last", self.any_of("set", self.accepted)))
        for u in range(len(self.mul)):
            parts.append(self.behind_value(u))
        for u in range(len(self.mul)):
            for a in range(self.labels[1]):
                parts.append(self.closed(u, a))
        found = self.line("all", self.always())
        for part in reversed(parts):
            found = self.line("both", part, found)
        return found

    def one_value(self):
        """Lay out that no place is in the sets of two values."""
        parts = []
        for v in range(len(self.mul)):
            for w in range(len(self.mul)):
                if v == w:
                    parts.append(self.always())
                else:
                    parts.append(self.implied(self.line("set", v), self.line("not", self.line("set", w))))
        return self.line("all", self.all_of(parts))

    def behind_value(self, u):
        """Lay out what follows on a place with this value that is no call."""
        no_call = self.line("not", self.any_call())
        return self.line("next", self.line("and", no_call, self.line("set", u)), self.behind(u))

    def closed(self, u, a):
        """Lay out which value a return has that closes a call a behind this value."""
        call = self.line("and", self.line("call", a), self.line("set", u))
        parts = []
        for b in range(self.labels[2]):
            for i, around in enumerate(self.wrap[a][b]):
                back = self.line("and", self.line("return", b), self.line("set", len(self.mul) + i))
                parts.append(self.implied(back, self.line("set", self.mul[u][around])))
        return self.line("arch", call, self.all_of(parts))
