"""Sentences made into readers."""

from archway.joined import denied, joint
from archway.lines import RULES, there_rules
from archway.marked import marked_labels, width
from archway.parts import truths_at, uses
from archway.readers import MOST_VALUES
from archway.texts import KINDS
from archway.values import made_reader


def sentence_reader(labels, sentence):
    """Return the reader of a sentence without given sets."""
    return reader_with(labels, sentence, 0)


def reader_with(labels, sentence, given):
    """Return the reader of a sentence with so many given sets."""
    making = PartReaders(labels, sentence)
    # The parts of a line stand ahead of it, so their readers are made first.
    for number, sets in uses(sentence, given):
        making.add_reader(number, sets)
    return making.readers[len(sentence) - 1, given]


class PartReaders:
    """The readers of the lines of a sentence, by the numbers of a line and of its sets."""

    def __init__(self, labels, sentence):
        self.labels = labels
        self.sentence = sentence
        self.readers = {}
        # For each number of sets that was needed: for each kind and label, which lines are true.
        self.truths = {}

    def add_reader(self, number, sets):
        """Make the reader of a line about a text; those of its parts are there."""
        name, *parts = self.sentence[number]
        if name == "denied":
            made = denied(self.readers[parts[0], sets])
        elif name == "both":
            made = joint("both", self.readers[parts[0], sets], self.readers[parts[1], sets])
        else:
            made = made_reader(self.rules_for(name, parts, sets), MOST_VALUES)
        self.readers[number, sets] = made

    def rules_for(self, name, parts, sets):
        """Return the rules of a line with this name and these parts."""
        labels = marked_labels(self.labels, sets)
        if name == "there":
            return there_rules(labels, width(sets), self.readers[parts[0], sets + 1])
        make_rules = RULES[name]
        found = [self.truths_of(part, sets) for part in parts]
        return make_rules(labels, *found)

    def truths_of(self, part, sets):
        """Return, for each kind and label, whether a line is true of such a place."""
        if sets not in self.truths:
            self.truths[sets] = self.truths_with(sets)
        rows = self.truths[sets]
        return {kind: [truths[part] for truths in rows[kind]] for kind in KINDS}

    def truths_with(self, sets):
        """Return, for each kind and label, which lines are true of such a place with so many sets."""
        found = {}
        for kind, many in zip(KINDS, marked_labels(self.labels, sets)):
            found[kind] = [truths_at(self.sentence, (kind, label), sets) for label in range(many)]
        return found
