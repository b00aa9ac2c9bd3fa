"""The values of what is inside of a text, and going down from the text to its places.

The values of the letters and arches of a row are a list by places: the value of a letter stands
at its place, that of an arch at the place of its call, and None at each return.
"""

from archway.texts import arches


def inner_values(reader, row):
    """Return the values of all letters and arches of a balanced row."""
    return completed(reader, row, [None] * len(row))


def completed(reader, row, kept):
    """Return the values of all letters and arches of a balanced row, of which some are kept."""
    _, _, letters, _, wrap, _ = reader
    backs = dict(arches(row))
    found = list(kept)
    # From the right to the left, the arches inside of an arch come before it.
    for place in reversed(range(len(row))):
        kind, label = row[place]
        if kind == "return" or found[place] is not None:
            continue
        if kind == "letter":
            found[place] = letters[label]
        else:
            inside = _value_of(reader, found, _children(backs, place + 1, backs[place]))
            found[place] = wrap[label][row[backs[place]][1]][inside]
    return found


def whole_value(reader, row, kept):
    """Return the value of a balanced row from the values of its letters and arches."""
    return _value_of(reader, kept, _children(dict(arches(row)), 0, len(row)))


def places_meant(reader, row, kept, added):
    """Return the places with which the row is accepted if `added` is added to the label of that one."""
    descent = Descent(reader, row, kept, added)
    descent.go_down()
    return sorted(descent.found)


def _children(backs, start, end):
    """Return the places of the letters and calls in a balanced stretch that lie in no arch of it."""
    found = []
    at = start
    while at < end:
        found.append(at)
        at = backs.get(at, at) + 1
    return found


def _value_of(reader, kept, children):
    """Return the value of a stretch from the values of its children."""
    _, empty, _, mul, _, _ = reader
    found = empty
    for place in children:
        found = mul[found][kept[place]]
    return found


class Descent:
    """Going down through a row, with the values that lead to the row being accepted.

    What is wanted of a stretch is a list with True or False for each value: whether the row would be
    accepted if the stretch had that value and nothing else was changed.
    """

    def __init__(self, reader, row, kept, added):
        self.reader = reader
        self.row = row
        self.kept = kept
        self.added = added
        self.backs = dict(arches(row))
        self.found = []

    def go_down(self):
        """Find the places that are meant."""
        _, _, _, mul, _, accepted = self.reader
        wanted = [number in accepted for number in range(len(mul))]
        waiting = [(0, len(self.row), wanted)]
        while waiting:
            start, end, wanted = waiting.pop()
            # Where nothing leads to the row being accepted, no place inside is meant.
            if any(wanted):
                waiting.extend(self.go_through(start, end, wanted))

    def go_through(self, start, end, wanted):
        """Try the children of a stretch; return the stretches inside of them with what is wanted there."""
        _, empty, _, mul, _, _ = self.reader
        children = _children(self.backs, start, end)
        behind = self.values_behind(children)
        ahead = empty
        inside = []
        for place, rest in zip(children, behind):
            wanted_here = [wanted[mul[mul[ahead][number]][rest]] for number in range(len(mul))]
            if place in self.backs:
                inside.append(self.try_arch(place, wanted_here))
            else:
                self.try_letter(place, wanted_here)
            ahead = mul[ahead][self.kept[place]]
        return inside

    def values_behind(self, children):
        """Return, for each child of a stretch, the value of what is behind it in the stretch."""
        _, empty, _, mul, _, _ = self.reader
        found = []
        rest = empty
        for place in reversed(children):
            found.append(rest)
            rest = mul[self.kept[place]][rest]
        return found[::-1]

    def try_letter(self, place, wanted):
        """Find whether a letter is meant."""
        if wanted[self.reader[2][self.row[place][1] + self.added]]:
            self.found.append(place)

    def try_arch(self, call, wanted):
        """Find whether a call and its return are meant; return what is wanted inside of them."""
        wrap = self.reader[4]
        back = self.backs[call]
        a, b = self.row[call][1], self.row[back][1]
        inside = _value_of(self.reader, self.kept, _children(self.backs, call + 1, back))
        if wanted[wrap[a + self.added][b][inside]]:
            self.found.append(call)
        if wanted[wrap[a][b + self.added][inside]]:
            self.found.append(back)
        return (call + 1, back, [wanted[around] for around in wrap[a][b]])
