"""Rows for the tests, and what the document says of them in its plainest form."""

from itertools import product

KINDS = {"l": "letter", "c": "call", "r": "return"}


def row(words):
    """Make a row of words such as "c0 l1 r0", without the program's own parser."""
    return [(KINDS[word[0]], int(word[1:])) for word in words.split()]


def nested(count):
    """Make a text of so many arches, each inside the one before."""
    return [("call", 0)] * count + [("return", 0)] * count


def short_rows(most):
    """Make every row of at most so many places, with one label of each kind."""
    found = []
    for length in range(most + 1):
        for kinds in product(("letter", "call", "return"), repeat=length):
            found.append([(kind, 0) for kind in kinds])
    return found


def plain_rest(places):
    """Cancel matching calls and returns; return the numbers of those left over."""
    rest = [(number, kind) for number, (kind, _) in enumerate(places) if kind != "letter"]
    at = 0
    while at + 1 < len(rest):
        if (rest[at][1], rest[at + 1][1]) == ("call", "return"):
            rest = rest[:at] + rest[at + 2:]
            at = 0
        else:
            at += 1
    return rest


def plain_fault(places):
    """Find the fault of a row in what is left over."""
    rest = plain_rest(places)
    for wanted in ("return", "call"):
        for number, kind in rest:
            if kind == wanted:
                return (kind, number)
    return None


def plain_arches(text):
    """Find each arch as a shortest stretch that is balanced and begins with a call."""
    found = []
    for start, (kind, _) in enumerate(text):
        if kind == "call":
            end = start + 1
            while plain_rest(text[start:end]):
                end += 1
            found.append((start, end - 1))
    return found


def short_texts(most):
    """Make every text of at most so many places, with one label of each kind."""
    return [places for places in short_rows(most) if not plain_rest(places)]
