"""Sentences: which are valid, how deep and large they are, and whether they hold for a text."""

from archway.bits import bits_of, is_among
from archway.texts import KINDS, arches, has_label

MOST_LINES = 60
MOST_SETS = 3

# For each name of a line: what the line is about, and what its numbers are. They are
# lines about a place or a text, sets, or labels of a kind.
FORMS = {
    "set": ("place", ("set",)),
    "letter": ("place", ("letter",)),
    "call": ("place", ("call",)),
    "return": ("place", ("return",)),
    "not": ("place", ("place",)),
    "and": ("place", ("place", "place")),
    "all": ("text", ("place",)),
    "next": ("text", ("place", "place")),
    "arch": ("text", ("place", "place")),
    "first": ("text", ("place",)),
    "last": ("text", ("place",)),
    "nothing": ("text", ()),
    "denied": ("text", ("text",)),
    "both": ("text", ("text", "text")),
    "there": ("text", ("text",)),
}


def about(line):
    """Return whether a line is about a "place" or a "text"."""
    return FORMS[line[0]][0]


def parts_of(line):
    """Return the numbers of the lines that a line names, in order."""
    wanted = FORMS[line[0]][1]
    return [number for number, kind in zip(line[1:], wanted) if kind in ("place", "text")]


def is_valid(labels, sentence):
    """Tell whether a sentence is valid for the labels."""
    if not 1 <= len(sentence) <= MOST_LINES:
        return False
    for own in range(len(sentence)):
        if not _is_valid_line(labels, sentence, own):
            return False
    return about(sentence[-1]) == "text"


def _is_valid_line(labels, sentence, own):
    """Tell whether a line is valid, behind lines that are."""
    line = sentence[own]
    if not line or line[0] not in FORMS:
        return False
    wanted = FORMS[line[0]][1]
    if len(line) - 1 != len(wanted):
        return False
    for number, kind in zip(line[1:], wanted):
        if not _fits(labels, sentence[:own], number, kind):
            return False
    return True


def _fits(labels, ahead, number, kind):
    """Tell whether a number in a line is of its kind; `ahead` are the lines ahead of it."""
    if kind == "set":
        return 0 <= number < MOST_SETS
    if kind in KINDS:
        return has_label(labels, (kind, number))
    return 0 <= number < len(ahead) and about(ahead[number]) == kind


def depth_of(sentence):
    """Return the greatest number of `there` that stand in one another."""
    found = []
    for line in sentence:
        inside = max([found[part] for part in parts_of(line)], default=0)
        found.append(inside + 1 if line[0] == "there" else inside)
    return found[-1]


def size_of(sentence):
    """Return the number of lines that are read, each as often as it is read."""
    found = []
    for line in sentence:
        found.append(1 + sum([found[part] for part in parts_of(line)]))
    return found[-1]


def holds(sentence, text, sets):
    """Tell whether a sentence holds for a text with given sets."""
    meaning = Meaning(sentence, text)
    return meaning.is_true(len(sentence) - 1, [bits_of(places) for places in sets])


class Meaning:
    """What the lines of a sentence say of one text.

    Sets of places are integers (see `archway.bits`), as `there` tries thousands of them.
    """

    def __init__(self, sentence, text):
        self.sentence = sentence
        self.length = len(text)
        self.everywhere = (1 << len(text)) - 1
        self.pairs = arches(text)
        self.places_with = {}
        for at, place in enumerate(text):
            self.places_with[place] = self.places_with.get(place, 0) | (1 << at)

    def is_true(self, number, sets):
        """Tell whether a line about a text is true with a list of sets."""
        name, *parts = self.sentence[number]
        if name == "denied":
            return not self.is_true(parts[0], sets)
        if name == "both":
            return self.is_true(parts[0], sets) and self.is_true(parts[1], sets)
        if name == "there":
            for chosen in range(1 << self.length):
                if self.is_true(parts[0], [*sets, chosen]):
                    return True
            return False
        return self.is_true_of_places(name, [self.places_where(part, sets) for part in parts])

    def is_true_of_places(self, name, places):
        """Tell whether a line is true whose parts are true of these sets of places."""
        if name == "nothing":
            return self.length == 0
        if name == "all":
            return places[0] == self.everywhere
        if name == "first":
            return self.length == 0 or is_among(0, places[0])
        if name == "last":
            return self.length == 0 or is_among(self.length - 1, places[0])
        first, second = places
        if name == "next":
            return (first << 1) & (self.everywhere - second) == 0
        return all([is_among(back, second) for call, back in self.pairs if is_among(call, first)])

    def places_where(self, number, sets):
        """Return the set of the places of which a line about one place is true."""
        name, *numbers = self.sentence[number]
        if name == "set":
            # A set that is neither given nor around is empty.
            return sets[numbers[0]] if numbers[0] < len(sets) else 0
        if name == "not":
            return self.everywhere - self.places_where(numbers[0], sets)
        if name == "and":
            return self.places_where(numbers[0], sets) & self.places_where(numbers[1], sets)
        return self.places_with.get((name, numbers[0]), 0)
