import unittest

from archway.documents import Document
from archway.errors import TooManyValues
from archway.joined import denied, joint
from archway.least import least, same_texts
from archway.machines import is_deterministic, machine_for, machine_reader, takes
from archway.meaning import holds
from archway.parsing import read_sentence
from archway.printing import write_sentence
from archway.questions import meant
from archway.readers import accepts, fault
from archway.sentences import reader_with, sentence_reader
from archway.shortest import parting
from archway.walks import sentence_for, sets_for, walk_for
from tests.plain import texts_with
from tests.plain_sentences import has_loose_set, plain_depth, rich_sentences, some_sentences
from tests.plain_walks import is_walked
from tests.rows import row

LABELS = (2, 1, 2)
ONE = (1, 1, 1)


class TurnedIntoEachOther(unittest.TestCase):
    """Sentences, readers and machines, without a change of the texts that they accept."""

    def check(self, labels, sentence, texts):
        reader = least(sentence_reader(labels, sentence))
        machine = machine_for(reader)
        self.assertIs(is_deterministic(machine), True)
        again = machine_reader(labels, machine)
        self.assertIsNone(fault(again))
        self.assertIsNone(parting(reader, again))
        self.assertIs(same_texts(reader, again), True)
        self.assertEqual(least(again), reader)
        walk = walk_for(reader)
        for text in texts:
            wanted = holds(sentence, text, [])
            self.assertIs(accepts(reader, text), wanted)
            self.assertIs(takes(machine, text), wanted)
            self.assertIs(accepts(again, text), wanted)
            if text:
                self.assertIs(is_walked(walk, text, sets_for(reader, text)), wanted)
        return reader

    def test_sentences(self):
        for labels, seed in ((ONE, 71), (LABELS, 72)):
            texts = texts_with(labels, 4 if labels == ONE else 2)
            for sentence in some_sentences(labels, 40, seed=seed, most_depth=2):
                self.check(labels, sentence, texts)

    def test_two_sentences(self):
        sentences = some_sentences(ONE, 20, seed=73, most_depth=1)
        readers = [self.check(ONE, sentence, []) for sentence in sentences]
        texts = texts_with(ONE, 4)
        for one, first in zip(sentences, readers):
            for other, second in zip(sentences, readers):
                text = parting(first, second)
                self.assertIs(text is None, same_texts(first, second))
                if text is None:
                    self.assertEqual(first, second)
                elif len(text) <= 6:
                    self.assertIsNot(holds(one, text, []), holds(other, text, []))
                both = joint("both", first, second)
                for place in texts[::7]:
                    self.assertIs(accepts(both, place), holds(one, place, []) and holds(other, place, []))
                shorter = [] if text is None else [short for short in texts if len(short) < len(text)]
                for short in shorter:
                    self.assertIs(holds(one, short, []), holds(other, short, []))

    def test_a_written_sentence_has_the_same_reader(self):
        tried = 0
        for sentence in some_sentences(LABELS, 100, seed=74, most_depth=2, most_size=60):
            # A set that is neither given nor around has no name.
            if not has_loose_set(sentence, 0):
                tried += 1
                again = read_sentence(LABELS, [], write_sentence([], sentence))
                self.assertEqual(sentence_reader(LABELS, again), sentence_reader(LABELS, sentence))
        self.assertGreater(tried, 20)

    def test_the_sentence_of_a_reader_is_made_of_lines(self):
        reader = sentence_reader(ONE, read_sentence(ONE, [], "all letter 0"))
        lines = sentence_for(reader)
        for number, line in enumerate(lines):
            self.assertIsInstance(line, tuple)
            if line[0] not in ("set", "letter", "call", "return"):
                self.assertEqual([part for part in line[1:] if not 0 <= part < number], [])

    def test_denied_sentences(self):
        for sentence in some_sentences(LABELS, 40, seed=75, most_depth=2):
            reader = sentence_reader(LABELS, sentence)
            negated = sentence_reader(LABELS, sentence + (("denied", len(sentence) - 1),))
            self.assertEqual(negated, denied(reader))


class BehindEdits(unittest.TestCase):
    """The answers behind edits are those of the current text."""

    def test_statements_and_questions(self):
        tried = 0
        for sentence in rich_sentences(ONE, 80, seed=76, most_texts=3, most_depth=2):
            document = Document(ONE, row("l0 c0 r0"))
            try:
                document.keep_question("asked", sentence)
                document.keep_statement("said", sentence)
            except TooManyValues:
                continue
            tried += 1
            reader = reader_with(ONE, sentence, 0)
            self.assertLessEqual(plain_depth(sentence), 2)
            for edit in (
                ("insert", 2, row("c0 l0 r0")), ("surround", 0, 1, 0, 0), ("remove", 1, 2), ("relabel", 3, 0),
                ("dissolve", 3), ("rewrite", "asked", 0), ("undo",), ("undo",), ("redo",), ("insert", 0, row("l0 l0")),
            ):
                getattr(document, edit[0])(*edit[1:])
                text = document.text()
                self.assertEqual(document.meant("asked"), meant(ONE, sentence, text))
                self.assertIs(document.holds("said"), accepts(reader, text))
        self.assertGreater(tried, 40)


if __name__ == "__main__":
    unittest.main()
