"""The rules by which lines about a text give values to stretches (see `archway.values`).

The lines that such a line names are about one place. What they are true of is told by a dict of the
three kinds, with a list of True and False by the labels of each.
"""

from archway.bits import bits_of, numbers_of


def all_rules(labels, at):
    """Return the rules of `all`: whether the line is true of all places."""

    def wrap(a, b, x):
        return at["call"][a] and at["return"][b] and x

    return (labels, True, at["letter"], _are_both, wrap, _is_itself)


def nothing_rules(labels):
    """Return the rules of `nothing`: whether there are no places."""

    def wrap(a, b, x):
        return False

    return (labels, True, [False] * labels[0], _are_both, wrap, _is_itself)


def arch_rules(labels, at, back):
    """Return the rules of `arch`: whether each call of which `at` is true has such a return."""

    def wrap(a, b, x):
        return x and (back["return"][b] or not at["call"][a])

    return (labels, True, [True] * labels[0], _are_both, wrap, _is_itself)


def next_rules(labels, at, behind):
    """Return the rules of `next`.

    The value of a stretch that is neither empty nor broken is a pair: whether `behind` is true of
    its first place, and whether `at` is true of its last place.
    """

    def mul(x, y):
        if x == "none" or y == "none":
            return y if x == "none" else x
        if x == "broken" or y == "broken" or (x[1] and not y[0]):
            return "broken"
        return (x[0], y[1])

    def wrap(a, b, x):
        call = (behind["call"][a], at["call"][a])
        back = (behind["return"][b], at["return"][b])
        return mul(mul(call, x), back)

    def accepts(x):
        return x != "broken"

    letters = list(zip(behind["letter"], at["letter"]))
    return (labels, "none", letters, mul, wrap, accepts)


def first_rules(labels, at):
    """Return the rules of `first`: whether the line is true of the first place."""

    def mul(x, y):
        return y if x == "none" else x

    def wrap(a, b, x):
        return at["call"][a]

    return (labels, "none", at["letter"], mul, wrap, _is_none_or_true)


def last_rules(labels, at):
    """Return the rules of `last`: whether the line is true of the last place."""

    def mul(x, y):
        return x if y == "none" else y

    def wrap(a, b, x):
        return at["return"][b]

    return (labels, "none", at["letter"], mul, wrap, _is_none_or_true)


def _are_both(x, y):
    return x and y


def _is_itself(x):
    return x


def _is_none_or_true(x):
    return x in ("none", True)


# The rules of each line that names no line about a text.
RULES = {
    "all": all_rules,
    "nothing": nothing_rules,
    "arch": arch_rules,
    "next": next_rules,
    "first": first_rules,
    "last": last_rules,
}


def there_rules(labels, wide, reader):
    """Return the rules of `there`: all values that a reader gives over all choices of one more set.

    The labels have `wide` codes each, and those of the reader twice as many.
    """
    _, empty, letters, _, _, accepted = reader
    choices = Choices(reader, labels, wide)
    good = bits_of(accepted)

    def mul(x, y):
        return choices.one_behind_the_other(x, y)

    def wrap(a, b, x):
        return choices.around(a, b, x)

    def accepts(x):
        return (x & good) != 0

    chosen = [bits_of([letters[one] for one in with_choice(a, wide)]) for a in range(labels[0])]
    return (labels, bits_of([empty]), chosen, mul, wrap, accepts)


def with_choice(label, wide):
    """Return the labels that a label with so many codes becomes outside and inside of one more set."""
    outside = label + (label // wide) * wide
    return (outside, outside + wide)


class Choices:
    """How sets of values of a reader are put together. These sets are integers (see `archway.bits`)."""

    def __init__(self, reader, labels, wide):
        _, _, _, self.mul, wrap, _ = reader
        # For each value and each set of values: what the value makes of those behind it.
        self.products = {}
        self.wrapped = [
            [_choices_around(wrap, with_choice(a, wide), with_choice(b, wide)) for b in range(labels[2])]
            for a in range(labels[1])
        ]

    def one_behind_the_other(self, x, y):
        """Return the values that a value of x makes with a value of y behind it."""
        found = 0
        for one in numbers_of(x):
            if (one, y) not in self.products:
                self.products[one, y] = bits_of([self.mul[one][other] for other in numbers_of(y)])
            found |= self.products[one, y]
        return found

    def around(self, a, b, x):
        """Return the values that a call a and a return b make of the values of x."""
        found = 0
        for one in numbers_of(x):
            found |= self.wrapped[a][b][one]
        return found


def _choices_around(wrap, calls, returns):
    """Return, for each value inside, the set of its values over all choices of the call and the return."""
    rows = [wrap[a][b] for a in calls for b in returns]
    return [bits_of(several) for several in zip(*rows)]
