"""Readers put together: denied readers, and two readers joined."""

from archway.errors import DifferentLabels
from archway.readers import MOST_VALUES
from archway.values import made_reader, rules_of


def denied(reader):
    """Return the reader that accepts the other texts."""
    labels, empty, letters, mul, wrap, accepted = reader
    others = [number for number in range(len(mul)) if number not in accepted]
    return (labels, empty, letters, mul, wrap, tuple(others))


def joint(kind, first, second):
    """Return the reader of two readers joined by a kind."""
    return joined(kind, first, second, MOST_VALUES)


def joined(kind, first, second, most):
    """Return two readers joined by a kind, with at most so many pairs as values."""
    if first[0] != second[0]:
        raise DifferentLabels("two readers with the same labels are joined")
    return made_reader(_pair_rules(kind, rules_of(first), rules_of(second)), most)


def _pair_rules(kind, first, second):
    """Return the rules of two rules side by side."""
    labels, first_empty, first_letters, first_mul, first_wrap, first_accepts = first
    _, second_empty, second_letters, second_mul, second_wrap, second_accepts = second

    def mul(x, y):
        return (first_mul(x[0], y[0]), second_mul(x[1], y[1]))

    def wrap(a, b, x):
        return (first_wrap(a, b, x[0]), second_wrap(a, b, x[1]))

    def accepts(x):
        return _is_joined(kind, first_accepts(x[0]), second_accepts(x[1]))

    letters = list(zip(first_letters, second_letters))
    return (labels, (first_empty, second_empty), letters, mul, wrap, accepts)


def _is_joined(kind, one, other):
    """Tell whether what the first reader says and what the second one says is joined by the kind."""
    if kind == "both":
        return one and other
    if kind == "either":
        return one or other
    if kind == "one":
        return one != other
    return one and not other
