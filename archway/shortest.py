"""Least lengths of values, and shortest texts.

A text that is not empty is a first element and a rest. The element is a letter, `("letter", a)`,
or an arch with a value inside, `("arch", a, b, x)`. What is kept of an element is its value,
its least length and itself.
"""

from heapq import heappop, heappush

from archway.errors import TextTooLong
from archway.joined import joined
from archway.texts import MOST_PLACES
from archway.values import numbered

MOST_PAIRS = 200


def lengths(reader):
    """Return the list of the least lengths of the values of a numbered reader."""
    _, empty, letters, mul, wrap, _ = reader
    least = {}
    firsts = {letter: 1 for letter in letters}
    waiting = [(0, empty)]
    while waiting:
        length, found = heappop(waiting)
        # The shortest one comes first, so another one of this value is not shorter.
        if found in least:
            continue
        least[found] = length
        for first in firsts:
            heappush(waiting, (firsts[first] + length, mul[first][found]))
        added = _new_arches(wrap, found, firsts)
        for first in added:
            firsts[first] = length + 2
            for rest in least:
                heappush(waiting, (firsts[first] + least[rest], mul[first][rest]))
    return [min(least[number], MOST_PLACES + 1) for number in range(len(mul))]


def _new_arches(wrap, inside, firsts):
    """Return the values of arches around a value that no element has so far, each once."""
    around = [row[inside] for rows in wrap for row in rows]
    return list({one: True for one in around if one not in firsts})


def text_of(reader, value):
    """Return the first shortest text of a value of a numbered reader."""
    return _first_text(reader, lengths(reader), value)


def shortest(reader):
    """Return the shortest text of a reader, or None if it accepts no text."""
    return _shortest_of(numbered(reader))


def together(kind, first, second):
    """Return the shortest text of two readers joined by a kind, or None."""
    return _shortest_of(joined(kind, first, second, MOST_PAIRS))


def parting(first, second):
    """Return a shortest text that exactly one of two readers accepts, or None."""
    return together("one", first, second)


def _shortest_of(reader):
    """Return the shortest text of a numbered reader, or None if it accepts no text."""
    accepted = reader[5]
    if not accepted:
        return None
    least = lengths(reader)
    return _first_text(reader, least, min(accepted, key=lambda number: (least[number], number)))


def _first_text(reader, least, value):
    """Return the first shortest text of a value of a numbered reader with these least lengths."""
    if least[value] > MOST_PLACES:
        raise TextTooLong(f"a text with this value has more than {MOST_PLACES} places")
    return _text_by(_beginnings(reader, least), value)


def _beginnings(reader, least):
    """Return the first element and the value of the rest of the first shortest text of each value."""
    mul = reader[3]
    found = {}
    for first, length, element in _elements_in_order(reader, least):
        for rest, whole in enumerate(mul[first]):
            if length + least[rest] == least[whole] and whole not in found:
                found[whole] = (element, rest)
    return found


def _elements_in_order(reader, least):
    """Return the elements with which first shortest texts may begin, in the order of trying."""
    _, _, letters, _, wrap, _ = reader
    found = [(one, 1, ("letter", a)) for a, one in enumerate(letters)]
    return found + _arches_in_order(wrap, least)


def _arches_in_order(wrap, least):
    """Return the arches with which first shortest texts may begin, in the order of trying."""
    shortest_of = {}
    for a, rows in enumerate(wrap):
        for b, row in enumerate(rows):
            for x, one in enumerate(row):
                arch = (one, least[x] + 2, ("arch", a, b, x))
                # A longer arch begins no shortest text, and of several shortest
                # ones with the same value the first one is tried first.
                if one not in shortest_of or arch[1] < shortest_of[one][1]:
                    shortest_of[one] = arch
    return sorted(list(shortest_of.values()), key=lambda arch: arch[2])


def _text_by(beginnings, value):
    """Return the first shortest text of a value, by the beginnings of all of them."""
    text = []
    # What is still to be written, the next one last: values, and the places between them.
    waiting = [value]
    while waiting:
        part = waiting.pop()
        if isinstance(part, tuple):
            text.append(part)
        elif part in beginnings:
            element, rest = beginnings[part]
            waiting.append(rest)
            if element[0] == "letter":
                text.append(element)
            else:
                _, a, b, x = element
                text.append(("call", a))
                waiting.extend([("return", b), x])
    return text
