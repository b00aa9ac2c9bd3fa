"""What the document says of marked texts and of the readers of lines, in its plainest form."""

from tests.plain import plain_list, plain_numbered
from tests.plain_sentences import PLACE_NAMES, plain_parts

KINDS = ("letter", "call", "return")


def plain_marked(text, sets):
    """Mark a text as point 34 says it."""
    return [
        (kind, label * 2 ** len(sets) + sum(2 ** i for i, places in enumerate(sets) if place in places))
        for place, (kind, label) in enumerate(text)
    ]


def plain_truth(sentence, number, kind, label, sets):
    """Tell whether a line is true of a place with a marked label (points 24 and 34)."""
    line = sentence[number]
    plain, code = divmod(label, 2 ** sets)
    if line[0] == "set":
        return line[1] < sets and code // 2 ** line[1] % 2 == 1
    if line[0] == "not":
        return not plain_truth(sentence, line[1], kind, label, sets)
    if line[0] == "and":
        return all([plain_truth(sentence, part, kind, label, sets) for part in line[1:]])
    return line == (kind, plain)


def plain_uses(sentence, given):
    """List the used lines about a text and their numbers of sets (point 38)."""
    found = set()
    waiting = [(len(sentence) - 1, given)]
    while waiting:
        number, sets = waiting.pop()
        line = sentence[number]
        if line[0] in PLACE_NAMES or (number, sets) in found:
            continue
        found.add((number, sets))
        waiting += [(part, sets + (line[0] == "there")) for part in plain_parts(line)]
    return sorted(found)


def next_tables(c, d):
    def mul(x, y):
        if "broken" in (x, y):
            return "broken"
        if x == "none":
            return y
        if y == "none":
            return x
        return "broken" if x[1] and not y[0] else (x[0], y[1])

    def wrap(a, b, x):
        call, back = ("call", a), ("return", b)
        if x == "broken":
            return x
        if x == "none":
            return "broken" if c(*call) and not d(*back) else (d(*call), c(*back))
        if (c(*call) and not x[0]) or (x[1] and not d(*back)):
            return "broken"
        return (d(*call), c(*back))

    return "none", lambda a: (d("letter", a), c("letter", a)), mul, wrap, lambda x: x != "broken"


def there_tables(part, wide):
    """The sets of the values of a part with one more set; `part` is what `plain_tables_of` gives."""
    _, empty, letters, mul, wrap, accepts = part

    def both(label):
        plain, code = divmod(label, wide)
        return [plain * 2 * wide + code, plain * 2 * wide + code + wide]

    return (
        frozenset([empty]),
        lambda a: frozenset(letters[one] for one in both(a)),
        lambda x, y: frozenset(mul(one, other) for one in x for other in y),
        lambda a, b, x: frozenset(wrap(i, j, one) for i in both(a) for j in both(b) for one in x),
        lambda x: any(accepts(one) for one in x),
    )


def plain_tables_of(labels, sentence, sets, number=-1):
    """Give what `plain_numbered` takes for a line about a text, as point 35 says it."""
    line = sentence[number]
    name = line[0]
    several = tuple(many * 2 ** sets for many in labels)
    if name == "there":
        found = there_tables(plain_tables_of(labels, sentence, sets + 1, line[1]), 2 ** sets)
    elif name in ("denied", "both"):
        parts = [plain_tables_of(labels, sentence, sets, part) for part in line[1:]]
        found = joined_tables(parts) if name == "both" else denied_tables(parts[0])
    else:
        found = line_tables(sentence, line, sets)
    empty, letter, mul, wrap, accepts = found
    return several, empty, [letter(a) for a in range(several[0])], mul, wrap, accepts


def denied_tables(part):
    _, empty, letters, mul, wrap, accepts = part
    return empty, lambda a: letters[a], mul, wrap, lambda x: not accepts(x)


def joined_tables(parts):
    one, other = parts
    return (
        (one[1], other[1]),
        lambda a: (one[2][a], other[2][a]),
        lambda x, y: (one[3](x[0], y[0]), other[3](x[1], y[1])),
        lambda a, b, x: (one[4](a, b, x[0]), other[4](a, b, x[1])),
        lambda x: one[5](x[0]) and other[5](x[1]),
    )


def line_tables(sentence, line, sets):
    """Tables of a line that names only lines about one place."""
    name = line[0]

    def truth(part):
        return lambda kind, label: plain_truth(sentence, line[part], kind, label, sets)

    def both(x, y):
        return x and y

    if name == "all":
        c = truth(1)
        return True, lambda a: c("letter", a), both, lambda a, b, x: c("call", a) and c("return", b) and x, bool
    if name == "nothing":
        return True, lambda a: False, both, lambda a, b, x: False, bool
    if name == "arch":
        c, d = truth(1), truth(2)
        return True, lambda a: True, both, lambda a, b, x: x and (not c("call", a) or d("return", b)), bool
    if name == "next":
        return next_tables(truth(1), truth(2))
    c = truth(1)
    if name == "first":
        return (
            "none", lambda a: c("letter", a), lambda x, y: y if x == "none" else x,
            lambda a, b, x: c("call", a), lambda x: x == "none" or x,
        )
    return (
        "none", lambda a: c("letter", a), lambda x, y: x if y == "none" else y,
        lambda a, b, x: c("return", b), lambda x: x == "none" or x,
    )


def plain_reader_of(labels, sentence, given):
    """Make the reader of a sentence as points 35 to 37 say it."""
    return plain_numbered(*plain_tables_of(labels, sentence, given))


def plain_many(labels, sentence, given):
    """Tell the numbers of values of the used lines, each None if it is more than 60."""
    found = {}
    for number, sets in plain_uses(sentence, given):
        several = plain_list(*plain_tables_of(labels, sentence, sets, number)[:-1], 60)
        found[number, sets] = None if several is None else len(several)
    return found
