"""The values that texts have: listing and numbering them.

Rules say how values are put together, whatever kind of values they are. They are a tuple
`(labels, empty, letters, mul, wrap, accepts)` like a reader, in which `mul(x, y)`, `wrap(a, b, x)`
and `accepts(x)` are functions. A reader is made from rules by numbering their values.
"""

from archway.errors import TooManyValues
from archway.readers import MOST_VALUES


def values(reader, most):
    """Return the list of the values that texts have, or None if there are more than `most`."""
    return listed(rules_of(reader), most)


def numbered(reader):
    """Return the reader whose values are the positions in the list of values."""
    return made_reader(rules_of(reader), MOST_VALUES)


def rules_of(reader):
    """Return the rules that a reader has in its tables."""
    labels, empty, letters, mul, wrap, accepted = reader

    def mul_of(x, y):
        return mul[x][y]

    def wrap_of(a, b, x):
        return wrap[a][b][x]

    def is_accepted(x):
        return x in accepted

    return (labels, empty, letters, mul_of, wrap_of, is_accepted)


def listed(rules, most):
    """Return the list of the values that texts have by rules, or None if it has more than `most`."""
    labels, empty, letters, mul, wrap, _ = rules
    # The keys are the list: a value that is there already keeps its position.
    found = {one: True for one in (empty, *letters)}
    done = 0
    while done < len(found) <= most:
        taken = list(found)
        _add_products(found, taken, done, mul, most)
        _add_wrapped(found, taken[done:], labels, wrap, most)
        done = len(taken)
    return list(found) if len(found) <= most else None


def _add_products(found, taken, done, mul, most):
    """Add the products of a round, or enough of them to have more than `most` values."""
    for number, x in enumerate(taken):
        # The round before has added the products of those that were there already.
        others = taken if number >= done else taken[done:]
        for y in others:
            found[mul(x, y)] = True
        if len(found) > most:
            return


def _add_wrapped(found, added, labels, wrap, most):
    """Add the values of the arches of a round, or enough of them to have more than `most`."""
    for a in range(labels[1]):
        for b in range(labels[2]):
            for x in added:
                found[wrap(a, b, x)] = True
            if len(found) > most:
                return


def made_reader(rules, most):
    """Return the numbered reader by rules, or raise an error if texts have more than `most` values."""
    found = listed(rules, most)
    if found is None:
        raise TooManyValues(f"texts have more than {most} values")
    return reader_by(rules, found)


def reader_by(rules, found):
    """Return the reader by rules in which value i stands for the i-th one that was found."""
    labels, _, letters, mul, wrap, is_accepted = rules
    number = {one: at for at, one in enumerate(found)}
    products = [tuple([number[mul(x, y)] for y in found]) for x in found]
    wrapped = [
        tuple([tuple([number[wrap(a, b, x)] for x in found]) for b in range(labels[2])])
        for a in range(labels[1])
    ]
    accepted = [at for at, one in enumerate(found) if is_accepted(one)]
    numbers = [number[one] for one in letters]
    return (labels, 0, tuple(numbers), tuple(products), tuple(wrapped), tuple(accepted))
