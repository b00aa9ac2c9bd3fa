"""What the document says of readers, in its plainest form."""

from tests.rows import plain_arches


def texts_with(labels, most):
    """Make every text of at most so many places with these labels, the shorter ones first."""
    letters, calls, returns = [range(many) for many in labels]
    by_length = [[[]]]
    for length in range(1, most + 1):
        found = [[("letter", a)] + rest for a in letters for rest in by_length[length - 1]]
        for inner in range(length - 1):
            for a in calls:
                for b in returns:
                    for inside in by_length[inner]:
                        for behind in by_length[length - 2 - inner]:
                            found.append([("call", a)] + inside + [("return", b)] + behind)
        by_length.append(found)
    return [text for texts in by_length for text in texts]


def plain_value(reader, text):
    """Find the value of a text as point 9 says it."""
    _, empty, letters, mul, wrap, _ = reader
    if not text:
        return empty
    kind, a = text[0]
    if kind == "letter":
        return mul[letters[a]][plain_value(reader, text[1:])]
    back = plain_arches(text)[0][1]
    inside = plain_value(reader, text[1:back])
    return mul[wrap[a][text[back][1]][inside]][plain_value(reader, text[back + 1:])]


def plain_fault_of_reader(reader):
    """Collect the faults in the order of point 10; return the first one."""
    labels, empty, letters, mul, wrap, accepted = reader
    numbers = range(len(mul))
    if len(labels) != 3 or [many for many in labels if many not in range(1, 25)]:
        return ("labels",)
    if len(mul) not in range(1, 61):
        return ("values",)
    if empty not in numbers:
        return ("empty",)
    if len(letters) != labels[0] or [v for v in letters if v not in numbers]:
        return ("letters",)
    for x in numbers:
        if len(mul[x]) != len(mul) or [v for v in mul[x] if v not in numbers]:
            return ("mul", x)
    for a in range(max(len(wrap), labels[1])):
        if a == len(wrap) or a == labels[1]:
            return ("wrap", a, 0)
        for b in range(max(len(wrap[a]), labels[2])):
            if b == len(wrap[a]) or b == labels[2]:
                return ("wrap", a, b)
            if len(wrap[a][b]) != len(mul) or [v for v in wrap[a][b] if v not in numbers]:
                return ("wrap", a, b)
    if list(accepted) != [v for v in numbers if v in accepted]:
        return ("accepted",)
    for x in numbers:
        if (mul[empty][x], mul[x][empty]) != (x, x):
            return ("unit", x)
    for x in numbers:
        for y in numbers:
            for z in numbers:
                if mul[mul[x][y]][z] != mul[x][mul[y][z]]:
                    return ("order", x, y, z)
    return None


def plain_list(labels, empty, letters, mul, wrap, most):
    """List values in the rounds of point 14; `mul` and `wrap` are functions."""
    found = [empty]
    for one in letters:
        if one not in found:
            found.append(one)
    while len(found) <= most:
        taken = list(found)
        made = [mul(x, y) for x in taken for y in taken]
        for a in range(labels[1]):
            for b in range(labels[2]):
                made += [wrap(a, b, x) for x in taken]
        for one in made:
            if one not in found:
                found.append(one)
        if found == taken:
            return found
    return None


def plain_numbered(labels, empty, letters, mul, wrap, accepts, most=60):
    """Number the values as point 15 says it; `mul`, `wrap` and `accepts` are functions."""
    found = plain_list(labels, empty, letters, mul, wrap, most)
    at = found.index
    return (
        labels,
        at(empty),
        tuple(at(one) for one in letters),
        tuple(tuple(at(mul(x, y)) for y in found) for x in found),
        tuple(
            tuple(tuple(at(wrap(a, b, x)) for x in found) for b in range(labels[2]))
            for a in range(labels[1])
        ),
        tuple(number for number, one in enumerate(found) if accepts(one)),
    )


def plain_tables(reader):
    """Give what `plain_numbered` takes, for a reader."""
    labels, empty, letters, mul, wrap, accepted = reader
    return (
        labels, empty, letters,
        lambda x, y: mul[x][y], lambda a, b, x: wrap[a][b][x], lambda x: x in accepted,
    )


JOINED = {
    "both": lambda one, other: one and other,
    "either": lambda one, other: one or other,
    "one": lambda one, other: (one, other) in ((True, False), (False, True)),
    "but_not": lambda one, other: (one, other) == (True, False),
}


def plain_joint(kind, first, second, most=60):
    """Join two readers as point 13 says it."""
    pairs = plain_numbered(
        first[0],
        (first[1], second[1]),
        list(zip(first[2], second[2])),
        lambda x, y: (first[3][x[0]][y[0]], second[3][x[1]][y[1]]),
        lambda a, b, x: (first[4][a][b][x[0]], second[4][a][b][x[1]]),
        lambda x: JOINED[kind](x[0] in first[5], x[1] in second[5]),
        most,
    )
    return pairs


def plain_lengths(reader):
    """Find the least lengths of point 16 by trying all parts again until nothing gets shorter."""
    _, empty, letters, mul, wrap, _ = reader
    numbers = range(len(mul))
    least = [201 for _ in numbers]
    least[empty] = 0
    before = None
    while before != least:
        before = list(least)
        firsts = [(1, v) for v in letters]
        firsts += [(2 + least[x], row[x]) for rows in wrap for row in rows for x in numbers]
        for length, first in firsts:
            for y in numbers:
                whole = mul[first][y]
                least[whole] = min(least[whole], length + least[y])
    return least


def plain_text_of(reader, least, value):
    """Find the first shortest text of point 17."""
    labels, _, letters, mul, wrap, _ = reader
    numbers = range(len(mul))
    if least[value] == 0:
        return []
    for a in range(labels[0]):
        for y in numbers:
            if mul[letters[a]][y] == value and 1 + least[y] == least[value]:
                return [("letter", a)] + plain_text_of(reader, least, y)
    for a in range(labels[1]):
        for b in range(labels[2]):
            for x in numbers:
                for y in numbers:
                    if mul[wrap[a][b][x]][y] == value and 2 + least[x] + least[y] == least[value]:
                        inside = plain_text_of(reader, least, x)
                        behind = plain_text_of(reader, least, y)
                        return [("call", a)] + inside + [("return", b)] + behind
    raise AssertionError("no text has this value")


def plain_steps(reader):
    """List the steps of point 22 in their order, with the values of the texts."""
    labels, numbers = reader[0], range(len(reader[3]))
    return (
        [("ahead", z) for z in numbers]
        + [("behind", z) for z in numbers]
        + [("around", a, b) for a in range(labels[1]) for b in range(labels[2])]
    )


def plain_led(reader, step, x):
    """Tell the value to which a step leads a value."""
    if step[0] == "ahead":
        return reader[3][step[1]][x]
    if step[0] == "behind":
        return reader[3][x][step[1]]
    return reader[4][step[1]][step[2]][x]


def plain_contexts(reader):
    """Find, in rounds, the steps that tell each pair of values apart (points 20 and 22)."""
    numbers = range(len(reader[3]))
    pairs = [(x, y) for x in numbers for y in numbers if x < y]
    told = {pair: [] for pair in pairs if (pair[0] in reader[5]) != (pair[1] in reader[5])}
    steps = plain_steps(reader)
    more = True
    while more:
        more = {}
        for x, y in pairs:
            for step in steps if (x, y) not in told else ():
                led = tuple(sorted((plain_led(reader, step, x), plain_led(reader, step, y))))
                if led in told:
                    more[x, y] = [step] + told[led]
                    break
        told.update(more)
    return told


def plain_leaders(reader):
    """Find the lowest value that is alike to each value."""
    told = plain_contexts(reader)
    numbers = range(len(reader[3]))
    return [min(y for y in numbers if y == x or (min(x, y), max(x, y)) not in told) for x in numbers]


def plain_least(reader):
    """Make the least reader as point 21 says it."""
    labels, empty, letters, mul, wrap, accepted = plain_numbered(*plain_tables(reader))
    leader = plain_leaders((labels, empty, letters, mul, wrap, accepted))
    return plain_numbered(
        labels,
        leader[empty],
        [leader[v] for v in letters],
        lambda x, y: leader[mul[x][y]],
        lambda a, b, x: leader[wrap[a][b][x]],
        lambda x: x in accepted,
    )


def in_context(context, text):
    """Apply the steps of a context to a text."""
    for step in context:
        if step[0] == "ahead":
            text = step[1] + text
        elif step[0] == "behind":
            text = text + step[1]
        else:
            text = [("call", step[1])] + text + [("return", step[2])]
    return text
