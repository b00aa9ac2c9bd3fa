"""Marked texts: a text and sets of its places, written as one text."""

from archway.bits import is_among


def width(sets):
    """Return how many codes there are for so many sets."""
    return 1 << sets


def marked_labels(labels, sets):
    """Return the labels of texts that are marked with so many sets."""
    return tuple([many * width(sets) for many in labels])


def marked(text, sets):
    """Return the marked text of a text and a list of sets of its places."""
    codes = [0] * len(text)
    for number, places in enumerate(sets):
        for place in places:
            codes[place] |= 1 << number
    wide = width(len(sets))
    return [(kind, label * wide + code) for (kind, label), code in zip(text, codes)]


def unmarked(text, count):
    """Return the text and the list of the sets that a text is marked with."""
    wide = width(count)
    plain = [(kind, label // wide) for kind, label in text]
    return (plain, [_places_in(text, number) for number in range(count)])


def _places_in(text, number):
    """Return the places that are in the set with this number."""
    # The lowest bits of a marked label are its code.
    return [place for place, (_, label) in enumerate(text) if is_among(number, label)]
