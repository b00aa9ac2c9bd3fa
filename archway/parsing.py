"""Written sentences: reading them.

A sentence is read word by word. What is still to be done is kept in a list of steps, so that
sentences with many parts in one another need no deep recursion. A step is a tuple: what to read
("statement", "place", a sign between two of them, "close", "name", "label", or "enter" for the
name behind `some`), or what to do without reading: ("make", name, count) makes a line from the
last `count` lines that are no part of another one, ("leave",) leaves a `some`.
"""

from archway.errors import InvalidWord, SentenceTooLarge
from archway.meaning import MOST_LINES, MOST_SETS
from archway.texts import has_label

LANGUAGE = (
    "some", "not", "and", "or", "implies", "all", "any", "next", "arch",
    "first", "last", "empty", "in", "letter", "call", "return",
)
LETTERS = "abcdefghijklmnopqrstuvwxyz"
DIGITS = "0123456789"
MOST_LETTERS = 8

# For each thing to read and each word at which it may begin: the steps that this leads to.
STEPS = {
    ("statement", "some"): (("enter",), ("statement",), ("make", "there", 1), ("leave",)),
    ("statement", "not"): (("statement",), ("make", "denied", 1)),
    ("statement", "("): (("statement",), ("statement sign",)),
    ("statement", "all"): (("place",), ("make", "all", 1)),
    ("statement", "any"): (("place",), ("make", "not", 1), ("make", "all", 1), ("make", "denied", 1)),
    ("statement", "next"): (("place",), ("place",), ("make", "next", 2)),
    ("statement", "arch"): (("place",), ("place",), ("make", "arch", 2)),
    ("statement", "first"): (("place",), ("make", "first", 1)),
    ("statement", "last"): (("place",), ("make", "last", 1)),
    ("statement", "empty"): (("make", "nothing", 0),),
    ("statement sign", "and"): (("statement",), ("close",), ("make", "both", 2)),
    ("statement sign", "or"): (
        ("make", "denied", 1), ("statement",), ("close",),
        ("make", "denied", 1), ("make", "both", 2), ("make", "denied", 1),
    ),
    ("statement sign", "implies"): (
        ("statement",), ("close",), ("make", "denied", 1), ("make", "both", 2), ("make", "denied", 1),
    ),
    ("place", "in"): (("name",),),
    ("place", "letter"): (("label", "letter"),),
    ("place", "call"): (("label", "call"),),
    ("place", "return"): (("label", "return"),),
    ("place", "not"): (("place",), ("make", "not", 1)),
    ("place", "("): (("place",), ("place sign",)),
    ("place sign", "and"): (("place",), ("close",), ("make", "and", 2)),
    ("place sign", "or"): (
        ("make", "not", 1), ("place",), ("close",), ("make", "not", 1), ("make", "and", 2), ("make", "not", 1),
    ),
    ("close", ")"): (),
}


def read_sentence(labels, names, written):
    """Return the sentence that is written, with these names of its given sets."""
    reading = SentenceReading(labels, names, written)
    reading.read()
    if len(reading.lines) > MOST_LINES:
        raise SentenceTooLarge(f"a sentence has at most {MOST_LINES} lines")
    if reading.most_sets > MOST_SETS:
        raise SentenceTooLarge(f"a sentence has at most {MOST_SETS} sets at any place")
    return tuple(reading.lines)


def is_name(word):
    """Tell whether a word can be the name of a set."""
    if word in LANGUAGE or not 1 <= len(word) <= MOST_LETTERS:
        return False
    return all([sign in LETTERS for sign in word])


class SentenceReading:
    """The reading of one sentence: its words, what has been read, and what is to be done."""

    def __init__(self, labels, names, written):
        self.labels = labels
        # No step takes the empty word, so reading fails at it if the sentence ends too early.
        self.words = [word for word in written.split(" ") if word] + [""]
        self.number = 0
        # The names of the sets at this word, in the order of their numbers.
        self.scope = list(names)
        self.most_sets = len(names)
        self.lines = []
        self.loose = []
        self.waiting = [("statement",)]

    def read(self):
        """Read all words."""
        while self.waiting:
            self.go(self.waiting.pop())
        if self.number < len(self.words) - 1:
            raise InvalidWord(self.number)

    def go(self, step):
        """Take one step."""
        if step[0] == "make":
            _, name, count = step
            self.make(name, count)
        elif step[0] == "leave":
            self.scope.pop()
        elif step[0] == "enter":
            self.enter()
        elif step[0] == "name":
            self.add_line(("set", self.set_of(self.words[self.number])))
            self.number += 1
        elif step[0] == "label":
            self.add_line((step[1], self.label_of(step[1], self.words[self.number])))
            self.number += 1
        else:
            self.begin(step[0])

    def begin(self, wanted):
        """Read the first word of something, which tells the steps that follow."""
        steps = STEPS.get((wanted, self.words[self.number]))
        if steps is None:
            raise InvalidWord(self.number)
        self.number += 1
        self.waiting.extend(steps[::-1])

    def enter(self):
        """Read the name behind `some`."""
        word = self.words[self.number]
        if not is_name(word):
            raise InvalidWord(self.number)
        self.number += 1
        self.scope.append(word)
        self.most_sets = max(self.most_sets, len(self.scope))

    def set_of(self, word):
        """Return the number of the set that a name means."""
        # The set of an inner `some` has a higher number.
        numbers = [number for number, name in enumerate(self.scope) if name == word]
        if not numbers:
            raise InvalidWord(self.number)
        return numbers[-1]

    def label_of(self, kind, word):
        """Return the label that a word says."""
        if len(word) != 1 or word not in DIGITS or not has_label(self.labels, (kind, int(word))):
            raise InvalidWord(self.number)
        return int(word)

    def add_line(self, line):
        """Add a line that is no part of another one so far."""
        self.loose.append(len(self.lines))
        self.lines.append(line)

    def make(self, name, count):
        """Make a line from the last lines that are no part of another one."""
        first = len(self.loose) - count
        parts = self.loose[first:]
        del self.loose[first:]
        self.add_line((name, *parts))
