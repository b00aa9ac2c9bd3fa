"""What the document says of walks and of sentences of readers, in its plainest form.

A part of a sentence is a tuple of a name and its numbers and parts, each part written out.
"""

from tests.plain import plain_value
from tests.rows import plain_arches

YES = ("not", ("and", ("set", 0), ("not", ("set", 0))))


def all_of(parts):
    return ("and", parts[0], all_of(parts[1:])) if parts else YES


def any_of(parts):
    if not parts:
        return ("not", YES)
    return ("not", ("and", ("not", parts[0]), ("not", any_of(parts[1:]))))


def implied(c, d):
    return ("not", ("and", c, ("not", d)))


def plain_behind(reader, u):
    (letters, calls, returns), _, values, mul, _, _ = reader
    return all_of(
        [implied(("letter", a), ("set", mul[u][values[a]])) for a in range(letters)]
        + [implied(("call", a), ("set", u)) for a in range(calls)]
        + [implied(("return", b), ("set", len(mul) + u)) for b in range(returns)]
    )


def plain_walk(reader):
    """Give the walk of point 42 as one part."""
    (_, calls, returns), empty, _, mul, wrap, accepted = reader
    n = len(mul)
    call = any_of([("call", a) for a in range(calls)])
    sentences = [
        ("all", all_of([
            YES if v == w else implied(("set", v), ("not", ("set", w))) for v in range(n) for w in range(n)
        ])),
        ("first", plain_behind(reader, empty)),
        ("next", call, plain_behind(reader, empty)),
        ("last", any_of([("set", v) for v in accepted])),
    ]
    for u in range(n):
        sentences.append(("next", ("and", ("not", call), ("set", u)), plain_behind(reader, u)))
    for u in range(n):
        for a in range(calls):
            sentences.append(("arch", ("and", ("call", a), ("set", u)), all_of([
                implied(("and", ("return", b), ("set", n + i)), ("set", mul[u][wrap[a][b][i]]))
                for b in range(returns) for i in range(n)
            ])))
    walk = ("all", YES)
    for one in sentences[::-1]:
        walk = ("both", one, walk)
    return walk


def plain_sentence(reader):
    """Give the sentence of point 44 as one part."""
    there = plain_walk(reader)
    for _ in range(2 * len(reader[3])):
        there = ("there", there)
    some_place = ("denied", ("nothing",))
    if reader[1] in reader[5]:
        return ("denied", ("both", some_place, ("denied", there)))
    return ("both", some_place, there)


def laid_out(part):
    """Lay a part out as point 45 says it."""
    lines = []

    def lay(one):
        numbers = [lay(inner) if isinstance(inner, tuple) else inner for inner in one[1:]]
        lines.append((one[0], *numbers))
        return len(lines) - 1

    lay(part)
    return tuple(lines)


def plain_sets(reader, text):
    """Find the sets of point 39, each place by itself."""
    n = len(reader[3])
    sets = [[] for _ in range(2 * n)]
    arches = plain_arches(text)
    for place, (kind, _) in enumerate(text):
        around = [call for call, back in arches if call < place < back]
        start = max(around, default=-1) + 1
        end = place if kind == "call" else place + 1
        sets[plain_value(reader, text[start:end])].append(place)
        for call, back in arches:
            if back == place:
                sets[n + plain_value(reader, text[call + 1:back])].append(place)
    return sets


def is_walked(lines, text, sets):
    """Tell whether a sentence without `there` is true, line by line; there may be many sets."""
    places = range(len(text))
    arches = plain_arches(text)
    found = []
    for name, *numbers in lines:
        if name == "set":
            made = [place in sets[numbers[0]] for place in places]
        elif name in ("letter", "call", "return"):
            made = [place == (name, numbers[0]) for place in text]
        else:
            parts = [found[number] for number in numbers]
            made = {
                "not": lambda c: [not one for one in c],
                "and": lambda c, d: [one and other for one, other in zip(c, d)],
                "all": lambda c: all(c),
                "first": lambda c: all(c[:1]),
                "last": lambda c: all(c[-1:]),
                "next": lambda c, d: all(not one or other for one, other in zip(c, d[1:])),
                "arch": lambda c, d: all(not c[call] or d[back] for call, back in arches),
                "both": lambda f, g: f and g,
            }[name](*parts)
        found.append(made)
    return found[-1]
