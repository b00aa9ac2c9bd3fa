"""Questions: the places of a text that a sentence means."""

from archway.descent import inner_values, places_meant
from archway.marked import marked
from archway.sentences import reader_with


def meant(labels, sentence, text):
    """Return the places that a question means in a text."""
    reader = reader_with(labels, sentence, 1)
    row = marked(text, [[]])
    return places_meant(reader, row, inner_values(reader, row), 1)


def meant_count(labels, sentence, text):
    """Return how many places a question means in a text."""
    return len(meant(labels, sentence, text))


def meant_at(labels, sentence, text, number):
    """Return the place with this number of those that a question means, or None."""
    found = meant(labels, sentence, text)
    return found[number] if 0 <= number < len(found) else None


def meant_pairs(labels, sentence, text):
    """Return the pairs of places that a sentence with two given sets means in a text."""
    reader = reader_with(labels, sentence, 2)
    found = []
    for first in range(len(text)):
        row = marked(text, [[first], []])
        # A place that is in the second set, too, has 2 added to its code.
        seconds = places_meant(reader, row, inner_values(reader, row), 2)
        found.extend([(first, second) for second in seconds])
    return found
