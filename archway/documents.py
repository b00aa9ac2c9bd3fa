"""Documents: a text that is edited, and statements and questions that are kept behind the edits."""

from archway.descent import completed, inner_values, places_meant, whole_value
from archway.errors import (
    InvalidName, InvalidPlace, NotBalanced, OutsideText, TextTooLong, TooManyEdits, TooManyNames, UnknownName,
)
from archway.marked import marked
from archway.sentences import reader_with
from archway.texts import MOST_PLACES, arches, check_labels, check_text, has_label, is_balanced

MOST_EDITS = 100
MOST_NAMES = 8
MOST_LETTERS = 12
LETTERS = "abcdefghijklmnopqrstuvwxyz"

# How many given sets statements and questions are read with.
STATEMENT = 0
QUESTION = 1


class Document:
    """A text that is edited, with kept statements and questions."""

    def __init__(self, labels, text):
        check_text(labels, text)
        self.labels = labels
        # For each name, the number of given sets and the reader.
        self.kept = {}
        self.current = Version(text)
        # The versions ahead of the edits that can be undone, and those that can be made again.
        self.earlier = []
        self.later = []
        self.made_last = 0

    def text(self):
        """Return the current text."""
        return list(self.current.row)

    def keep_statement(self, name, sentence):
        """Keep a statement under a name."""
        self._keep(name, sentence, STATEMENT)

    def keep_question(self, name, sentence):
        """Keep a question under a name."""
        self._keep(name, sentence, QUESTION)

    def names(self):
        """Return the list of names in alphabetical order."""
        return sorted(list(self.kept))

    def holds(self, name):
        """Tell whether a kept statement holds for the current text."""
        reader = self._reader_of(name, STATEMENT)
        row = marked_row(self.current.row, STATEMENT)
        return whole_value(reader, row, self.current.found[name]) in reader[5]

    def meant(self, name):
        """Return the places that a kept question means in the current text."""
        reader = self._reader_of(name, QUESTION)
        row = marked_row(self.current.row, QUESTION)
        return places_meant(reader, row, self.current.found[name], 1)

    def insert(self, at, row):
        """Put a balanced row ahead of a place."""
        self._check_stretch(at, at)
        check_labels(self.labels, row)
        check_balanced(row)
        places = self._sources()
        added = [(place, None) for place in row]
        self._change(places[:at] + added + places[at:], self._calls_around(at, at))

    def remove(self, start, end):
        """Remove a balanced stretch."""
        self._check_stretch(start, end)
        check_balanced(self.current.row[start:end])
        places = self._sources()
        self._change(places[:start] + places[end:], self._calls_around(start, end))

    def surround(self, start, end, a, b):
        """Put a call ahead of a balanced stretch and a return behind it."""
        self._check_stretch(start, end)
        self._check_label("call", a)
        self._check_label("return", b)
        check_balanced(self.current.row[start:end])
        places = self._sources()
        inside = [(("call", a), None), *places[start:end], (("return", b), None)]
        self._change(places[:start] + inside + places[end:], self._calls_around(start, end))

    def dissolve(self, at):
        """Remove a call and its return."""
        self._check_place(at)
        if self.current.row[at][0] != "call":
            raise NotBalanced("only a call and its return can be dissolved")
        back = dict(arches(self.current.row))[at]
        places = self._sources()
        rest = places[:at] + places[at + 1:back] + places[back + 1:]
        self._change(rest, self._calls_around(at, back + 1))

    def relabel(self, at, a):
        """Give a place another label."""
        self._check_place(at)
        kind, _ = self.current.row[at]
        self._check_label(kind, a)
        self._label_again([at], a)

    def rewrite(self, name, a):
        """Give all letters that a question means another label, at the same time."""
        self._reader_of(name, QUESTION)
        self._check_label("letter", a)
        row = self.current.row
        letters = [place for place in self.meant(name) if row[place][0] == "letter"]
        self._label_again([place for place in letters if row[place][1] != a], a)

    def undo(self):
        """Take back the last edit that is in force; tell whether there was one."""
        if not self.earlier:
            return False
        self.later.append(self.current)
        self.current = self.earlier.pop()
        self.made_last = 0
        return True

    def redo(self):
        """Make the edit again that was taken back last; tell whether there was one."""
        if not self.later:
            return False
        self.earlier.append(self.current)
        self.current = self.later.pop()
        self.made_last = 0
        return True

    def edits(self):
        """Return how many edits can be undone."""
        return len(self.earlier)

    def undone(self):
        """Return how many edits can be made again."""
        return len(self.later)

    def made(self):
        """Return for how many letters and arches the last edit made values."""
        return self.made_last

    def _keep(self, name, sentence, given):
        """Keep a sentence that is read with so many given sets under a name."""
        check_name(name)
        if name not in self.kept and len(self.kept) == MOST_NAMES:
            raise TooManyNames(f"there are {MOST_NAMES} other names already")
        reader = reader_with(self.labels, sentence, given)
        self.kept[name] = (given, reader)
        # All versions get their values now, so that undoing an edit makes none.
        for version in [*self.earlier, self.current, *self.later]:
            version.found[name] = inner_values(reader, marked_row(version.row, given))

    def _reader_of(self, name, given):
        """Return the reader of a name, which is kept with so many given sets."""
        if name not in self.kept or self.kept[name][0] != given:
            raise UnknownName(name)
        return self.kept[name][1]

    def _check_stretch(self, start, end):
        if not 0 <= start <= end <= len(self.current.row):
            raise OutsideText(f"the text has no stretch from {start} to {end}")

    def _check_place(self, at):
        if not 0 <= at < len(self.current.row):
            raise OutsideText(f"the text has no place {at}")

    def _check_label(self, kind, label):
        if not has_label(self.labels, (kind, label)):
            raise InvalidPlace(0)

    def _sources(self):
        """Return the places of the text with their numbers."""
        return [(place, number) for number, place in enumerate(self.current.row)]

    def _calls_around(self, start, end):
        """Return the calls of the arches around a stretch."""
        return [call for call, back in arches(self.current.row) if call < start and end <= back]

    def _label_again(self, changed, a):
        """Give places the label a."""
        row = self.current.row
        places = self._sources()
        for number in changed:
            places[number] = ((row[number][0], a), number)
        # The arch of a return that is changed counts like the arches around it.
        calls = [call for call, back in arches(row) if any([call < number <= back for number in changed])]
        self._change(places, changed + calls)

    def _change(self, places, again):
        """Make an edit.

        The places are pairs of a place and the number that it had, or None. The letters and arches
        without such a number, and those whose number is in `again`, get new values.
        """
        if len(places) > MOST_PLACES:
            raise TextTooLong(f"a text has at most {MOST_PLACES} places")
        if len(self.earlier) == MOST_EDITS:
            raise TooManyEdits(f"{MOST_EDITS} edits can be undone already")
        renewed = {number: True for number in again}
        sources = [None if number in renewed else number for _, number in places]
        version = Version([place for place, _ in places])
        for name, (given, reader) in self.kept.items():
            found = self.current.found[name]
            used = [None if number is None else found[number] for number in sources]
            version.found[name] = completed(reader, marked_row(version.row, given), used)
        self.made_last = version.count_without(sources)
        self.earlier.append(self.current)
        self.later = []
        self.current = version


class Version:
    """A text that a document has had, with its kept values."""

    def __init__(self, row):
        self.row = list(row)
        # For each name, the values of the letters and arches (see `archway.descent`).
        self.found = {}

    def count_without(self, sources):
        """Return how many letters and arches have None as their source."""
        return len([kind for (kind, _), source in zip(self.row, sources) if source is None and kind != "return"])


def marked_row(row, given):
    """Return a row that is marked with so many empty sets."""
    return marked(row, [[]] * given)


def check_name(name):
    """Raise an error if a name has not the form of a name."""
    if not 1 <= len(name) <= MOST_LETTERS or not all([sign in LETTERS for sign in name]):
        raise InvalidName(name)


def check_balanced(row):
    """Raise an error if a row is not balanced."""
    if not is_balanced(row):
        raise NotBalanced("a row or a stretch has a call or a return that nothing matches")
