import unittest
from copy import deepcopy
from itertools import product
from random import Random

from archway.documents import Document
from archway.errors import (
    InvalidName, InvalidPlace, NotBalanced, OutsideText, TextTooLong, TooManyEdits, TooManyNames, TooManyValues,
    UnbalancedText, UnknownName,
)
from archway.meaning import holds
from archway.parsing import read_sentence
from archway.questions import meant
from archway.readers import accepts
from archway.sentences import sentence_reader
from archway.texts import is_balanced
from tests.plain import texts_with
from tests.plain_documents import plain_edited, plain_made, plain_rewritten
from tests.rows import nested, row
from tests.samples import LARGE

LABELS = (2, 2, 3)
END = ("nothing",)

STATEMENTS = {
    "anyone": "any letter 1",
    "matched": "arch call 0 return 1",
    "steps": "next letter 0 not letter 0",
    "ends": "( first letter 1 implies not last call 0 )",
}
QUESTIONS = {
    "ones": "all ( not in x or letter 1 )",
    "opened": "( all ( not in x or call 0 ) and not arch in x return 1 )",
    "rest": "some y ( next in y in y and all ( ( not in x or in y ) and not ( in y and letter 1 ) ) )",
    "behind": "( not first in x and not next ( return 0 or return 1 ) not in x )",
}
LETTERS = "all ( not in x or ( letter 0 or letter 1 ) )"


def statement(written):
    return read_sentence(LABELS, [], written)


def question(written):
    return read_sentence(LABELS, ["x"], written)


def document_of(words, labels=LABELS):
    return Document(labels, row(words))


def kept_document(words):
    """Make a document with all of the statements and questions above."""
    document = document_of(words)
    for name, written in STATEMENTS.items():
        document.keep_statement(name, statement(written))
    for name, written in QUESTIONS.items():
        document.keep_question(name, question(written))
    return document


def state_of(document):
    """Tell everything that can be seen of a document."""
    answers = []
    for name in document.names():
        try:
            answers.append((name, document.holds(name)))
        except UnknownName:
            answers.append((name, document.meant(name)))
    return (document.text(), answers, document.edits(), document.undone(), document.made(), document.labels)


def whole_state(document):
    """Tell everything that can be seen, also of the texts that can be brought back."""
    states = [state_of(document)]
    for again in ("undo", "redo"):
        other = deepcopy(document)
        while getattr(other, again)():
            states.append(state_of(other))
    return states


class Checked(unittest.TestCase):
    def check_answers(self, document, sentences=None):
        """Hold the answers against the current text."""
        text = document.text()
        for name, written in (sentences or STATEMENTS).items():
            if name in STATEMENTS:
                self.assertIs(document.holds(name), holds(statement(written), text, []), (name, text))
        for name, written in (sentences or QUESTIONS).items():
            if name in QUESTIONS:
                self.assertEqual(document.meant(name), meant(LABELS, question(written), text), (name, text))

    def refused(self, error, edit, *arguments):
        """Check that something raises an error and changes nothing; return the error."""
        document = edit.__self__
        before = whole_state(document)
        with self.assertRaises(error) as caught:
            edit(*arguments)
        self.assertIs(caught.exception.__class__, error)
        self.assertEqual(whole_state(document), before)
        return caught.exception

    def edited(self, document, edit, *arguments):
        """Make an edit, and check the text, what was made and what can be undone."""
        text, edits = document.text(), document.edits()
        self.assertIsNone(getattr(document, edit)(*arguments))
        self.assertEqual(document.text(), plain_edited(text, edit, *arguments))
        self.assertEqual(document.made(), plain_made(text, edit, *arguments), (text, edit, arguments))
        self.assertEqual((document.edits(), document.undone()), (edits + 1, 0))
        self.assertIs(is_balanced(document.text()), True)


class New(unittest.TestCase):
    def test_a_new_document(self):
        document = document_of("l0 c1 r2")
        self.assertEqual(document.text(), row("l0 c1 r2"))
        self.assertEqual(document.labels, LABELS)
        self.assertEqual(document.names(), [])
        self.assertEqual((document.edits(), document.undone(), document.made()), (0, 0, 0))
        self.assertEqual(Document((1, 1, 1), []).text(), [])

    def test_errors(self):
        for words, error, field, number in (
            ("l0 l2", InvalidPlace, "number", 1), ("r0 c5", InvalidPlace, "number", 1),
            ("c0 c2 r2", InvalidPlace, "number", 1), ("l0 r0", UnbalancedText, "place", 1),
            ("c0 c0 r0", UnbalancedText, "place", 0),
            ("r0 " + "l0 " * 200, UnbalancedText, "place", 0),
        ):
            with self.assertRaises(error) as caught:
                document_of(words)
            self.assertEqual(getattr(caught.exception, field), number)
        with self.assertRaises(TextTooLong):
            document_of("l0 " * 201)
        self.assertEqual(len(document_of("l0 " * 200).text()), 200)

    def test_the_text_is_copied(self):
        text = row("l0 l1")
        document = Document(LABELS, text)
        document.keep_question("ones", question(QUESTIONS["ones"]))
        text.append(("letter", 1))
        text[0] = ("letter", 1)
        self.assertEqual(document.text(), row("l0 l1"))
        self.assertEqual(document.meant("ones"), [1])
        document.text().append(("letter", 1))
        document.text()[0] = ("letter", 1)
        self.assertEqual(document.text(), row("l0 l1"))


class Names(Checked):
    def test_names_in_alphabetical_order(self):
        document = kept_document("l0")
        self.assertEqual(
            document.names(), ["anyone", "behind", "ends", "matched", "ones", "opened", "rest", "steps"],
        )
        document.names().append("more")
        self.assertEqual(len(document.names()), 8)

    def test_valid_names(self):
        for name in ("a", "z", "abcdefghijkl", "some", "letter", "not"):
            document = document_of("l1")
            self.assertIsNone(document.keep_statement(name, (END,)))
            self.assertIsNone(document.keep_question(name + "x" * (len(name) < 12), (END,)))
            self.assertIn(name, document.names())

    def test_names_that_are_not_valid(self):
        document = kept_document("l1")
        wrong = ["", "abcdefghijklm", "A", "aB", "a1", "a b", "a-b", "a_b", " a", "a ", "a\n", "1"]
        # Lower-case letters of other alphabets are none here.
        for name in wrong + ["\u00e4", "\u00df", "\u0430"]:
            for keep in (document.keep_statement, document.keep_question):
                self.assertEqual(self.refused(InvalidName, keep, name, (END,)).name, name)

    def test_the_eighth_and_the_ninth_name(self):
        document = document_of("l1 l0")
        for name in "abcdefg":
            document.keep_statement(name, (END,))
        document.keep_question("h", question(QUESTIONS["ones"]))
        self.assertEqual(len(document.names()), 8)
        self.refused(TooManyNames, document.keep_statement, "i", (END,))
        self.refused(TooManyNames, document.keep_question, "i", (END,))
        # A name that is there may be kept again, also as the other kind.
        document.keep_statement("a", statement(STATEMENTS["anyone"]))
        document.keep_question("b", question(QUESTIONS["ones"]))
        document.keep_statement("h", statement("empty"))
        self.assertEqual(document.names(), list("abcdefgh"))
        self.assertEqual((document.holds("a"), document.meant("b"), document.holds("h")), (True, [0], False))
        self.refused(TooManyNames, document.keep_question, "z", (END,))

    def test_kept_again_as_the_other_kind(self):
        document = document_of("l1 l0")
        document.keep_statement("mine", statement("any letter 1"))
        self.assertIs(document.holds("mine"), True)
        self.assertEqual(self.refused(UnknownName, document.meant, "mine").name, "mine")
        document.keep_question("mine", question(QUESTIONS["ones"]))
        self.assertEqual(document.meant("mine"), [0])
        self.assertEqual(self.refused(UnknownName, document.holds, "mine").name, "mine")
        document.keep_statement("mine", statement("all letter 1"))
        self.assertIs(document.holds("mine"), False)
        self.assertEqual(self.refused(UnknownName, document.rewrite, "mine", 0).name, "mine")
        self.assertEqual(document.names(), ["mine"])

    def test_kept_again_as_the_same_kind(self):
        document = document_of("l1 l0")
        document.keep_statement("mine", statement("any letter 1"))
        document.relabel(1, 1)
        document.keep_statement("mine", statement("all letter 0"))
        self.assertIs(document.holds("mine"), False)
        document.relabel(0, 0)
        document.relabel(1, 0)
        self.assertIs(document.holds("mine"), True)
        for _ in range(3):
            document.undo()
        self.assertIs(document.holds("mine"), False)

    def test_names_that_are_not_kept(self):
        document = kept_document("l1")
        for ask in (document.holds, document.meant):
            for name in ("mine", "one", "oness", "", "A", "a name that is not valid"):
                self.assertEqual(self.refused(UnknownName, ask, name).name, name)
        for name in QUESTIONS:
            self.assertEqual(self.refused(UnknownName, document.holds, name).name, name)
        for name in STATEMENTS:
            self.assertEqual(self.refused(UnknownName, document.meant, name).name, name)

    def test_the_order_of_the_errors(self):
        large = read_sentence((1, 1, 1), ["x"], LARGE)
        there = large + (("there", len(large) - 1),)
        document = document_of("l0")
        for name in "abcdefgh":
            document.keep_statement(name, (END,))
        self.refused(InvalidName, document.keep_question, "I", large)
        self.refused(InvalidName, document.keep_statement, "", there)
        self.refused(TooManyNames, document.keep_question, "i", large)
        self.refused(TooManyNames, document.keep_statement, "i", there)
        # What is refused leaves what had the name.
        self.refused(TooManyValues, document.keep_question, "h", large)
        self.refused(TooManyValues, document.keep_statement, "h", there)
        self.assertIs(document.holds("h"), False)
        other = document_of("l0")
        self.refused(TooManyValues, other.keep_question, "h", large)
        self.assertEqual(other.names(), [])
        # The same sentence has few values without the set.
        other.keep_statement("h", large)
        self.assertIs(other.holds("h"), True)

    def test_keeping_is_no_edit(self):
        document = document_of("l0 l1")
        document.relabel(1, 0)
        document.insert(0, row("c0 l1 r0"))
        document.undo()
        document.relabel(0, 1)
        document.undo()
        document.insert(1, row("c0 l1 r0"))
        document.undo()
        document.relabel(0, 1)
        self.assertEqual((document.made(), document.edits(), document.undone()), (1, 2, 0))
        document.keep_statement("a", (END,))
        document.keep_question("b", question(QUESTIONS["ones"]))
        self.assertEqual((document.made(), document.edits(), document.undone()), (1, 2, 0))
        document.undo()
        document.keep_question("c", question(QUESTIONS["rest"]))
        self.assertEqual((document.made(), document.edits(), document.undone()), (0, 1, 1))
        self.assertEqual(document.names(), ["a", "b", "c"])

    def test_the_sentence_may_have_places_of_texts_with_all_sets(self):
        document = document_of("l1 c0 l0 r1")
        deep = statement("some y some z ( next in y in z and arch in y in z )")
        document.keep_statement("deep", deep)
        self.assertIs(document.holds("deep"), True)
        asked = question("some y ( next in x in y and arch in x in y )")
        document.keep_question("asked", asked)
        self.assertEqual(document.meant("asked"), [0, 1, 2, 3])


class Edits(Checked):
    def test_insert(self):
        document = kept_document("l0 c0 l1 r1")
        self.edited(document, "insert", 0, row("l1"))
        self.edited(document, "insert", 5, row("c1 r2"))
        self.edited(document, "insert", 3, row("c0 l0 r0 l1"))
        self.edited(document, "insert", 4, [])
        self.assertEqual(document.text(), row("l1 l0 c0 c0 l0 r0 l1 l1 r1 c1 r2"))
        self.check_answers(document)
        empty = kept_document("")
        self.edited(empty, "insert", 0, [])
        self.edited(empty, "insert", 0, row("c0 r1 l1"))
        self.check_answers(empty)

    def test_remove(self):
        document = kept_document("l0 c0 l1 c1 r2 r1 l1 l0")
        self.edited(document, "remove", 7, 8)
        self.edited(document, "remove", 0, 1)
        self.edited(document, "remove", 2, 4)
        self.edited(document, "remove", 1, 1)
        self.edited(document, "remove", 4, 4)
        self.assertEqual(document.text(), row("c0 l1 r1 l1"))
        self.check_answers(document)
        self.edited(document, "remove", 0, 4)
        self.assertEqual(document.text(), [])
        self.edited(document, "remove", 0, 0)
        self.check_answers(document)

    def test_surround(self):
        document = kept_document("l0 l1")
        self.edited(document, "surround", 0, 2, 1, 2)
        self.edited(document, "surround", 0, 4, 0, 0)
        self.edited(document, "surround", 6, 6, 0, 1)
        self.edited(document, "surround", 3, 4, 1, 0)
        self.edited(document, "surround", 3, 3, 0, 2)
        self.edited(document, "surround", 0, 0, 0, 1)
        self.assertEqual(document.text(), row("c0 r1 c0 c1 l0 c0 r2 c1 l1 r0 r2 r0 c0 r1"))
        self.check_answers(document)

    def test_dissolve(self):
        document = kept_document("c0 c1 l0 r1 l1 r0 c0 c0 l1 r1 r1")
        self.edited(document, "dissolve", 1)
        self.edited(document, "dissolve", 4 + 1)
        self.edited(document, "dissolve", 4)
        self.edited(document, "dissolve", 0)
        self.assertEqual(document.text(), row("l0 l1 l1"))
        self.check_answers(document)

    def test_dissolve_the_last_place_that_can_be(self):
        document = kept_document("l0 c0 r0")
        self.edited(document, "dissolve", 1)
        self.assertEqual(document.text(), row("l0"))
        self.assertEqual(document.made(), 0)

    def test_relabel(self):
        document = kept_document("l0 c0 l1 c1 r2 r1")
        for at, a in ((0, 1), (1, 1), (2, 0), (3, 0), (4, 0), (5, 2), (5, 2), (0, 1), (3, 0)):
            self.edited(document, "relabel", at, a)
            self.check_answers(document)
        self.assertEqual(document.text(), row("l1 c1 l0 c0 r0 r2"))

    def test_rewrite(self):
        document = kept_document("l0 c0 l1 l0 r1 l1 c1 l0 r0")
        self.assertEqual(document.meant("ones"), [2, 5])
        self.assertIsNone(document.rewrite("ones", 0))
        self.assertEqual(document.text(), row("l0 c0 l0 l0 r1 l0 c1 l0 r0"))
        self.assertEqual((document.made(), document.edits()), (3, 1))
        self.check_answers(document)
        # Nothing is meant any more; this is an edit all the same.
        document.rewrite("ones", 0)
        self.assertEqual((document.made(), document.edits()), (0, 2))
        self.assertEqual(document.meant("ones"), [])

    def test_rewrite_letters_only(self):
        document = kept_document("c0 l0 r1 l1 c0 c1 l0 r2 r0")
        document.keep_question("rest", (END, ("denied", 0)))
        document.rewrite("rest", 1)
        self.assertEqual(document.text(), row("c0 l1 r1 l1 c0 c1 l1 r2 r0"))
        # Two letters, and three arches around them; the letter with the label 1 stays.
        self.assertEqual(document.made(), 5)
        document.rewrite("rest", 1)
        self.assertEqual(document.made(), 0)
        self.assertIs(document.holds("anyone"), True)
        document.rewrite("rest", 0)
        self.assertEqual(document.made(), 6)
        self.assertIs(document.holds("anyone"), False)
        document.rewrite("opened", 1)
        self.assertEqual((document.text(), document.made()), (row("c0 l0 r1 l0 c0 c1 l0 r2 r0"), 0))

    def test_all_at_the_same_time(self):
        # One by one, each change would lead to the next one: x is behind a letter 1.
        document = document_of("l1 l0 l0 l0")
        document.keep_question("behind", question("( not first in x and not next letter 1 not in x )"))
        self.assertEqual(document.meant("behind"), [1])
        document.rewrite("behind", 1)
        self.assertEqual(document.text(), row("l1 l1 l0 l0"))

    def test_every_edit_of_short_texts(self):
        rows = [row(words) for words in ("", "l1", "c0 r1", "l0 c1 l1 r0")]
        for text in texts_with((1, 1, 1), 4) + [row("l1 c0 l0 c1 r2 r1"), row("c0 c0 l1 r1 r0 l0")]:
            edits = [("insert", at, added) for at in range(len(text) + 1) for added in rows]
            for start, end in product(range(len(text) + 1), repeat=2):
                if start <= end and is_balanced(text[start:end]):
                    edits += [("remove", start, end), ("surround", start, end, 1, 2)]
            for at, (kind, _) in enumerate(text):
                edits += [("relabel", at, 0), ("relabel", at, 1)] + [("dissolve", at)] * (kind == "call")
            for edit in edits:
                document = Document(LABELS, text)
                document.keep_statement("matched", statement(STATEMENTS["matched"]))
                document.keep_question("ones", question(QUESTIONS["ones"]))
                self.edited(document, *edit)
                self.check_answers(document, {"matched": STATEMENTS["matched"], "ones": QUESTIONS["ones"]})
                self.assertIs(document.undo(), True)
                self.assertEqual(document.text(), text)

    def test_lists_that_are_passed_in(self):
        document = kept_document("l0")
        added = row("c0 l1 r1")
        document.insert(1, added)
        added[1] = ("letter", 0)
        added.append(("letter", 1))
        self.assertEqual(document.text(), row("l0 c0 l1 r1"))
        document.meant("ones").append(0)
        self.assertEqual(document.meant("ones"), [2])
        whole = document.text()
        document.insert(0, whole)
        self.assertEqual(document.text(), whole + whole)
        self.assertEqual(whole, row("l0 c0 l1 r1"))


class Errors(Checked):
    def setUp(self):
        self.document = kept_document("l0 c0 l1 r1 l1")
        self.document.relabel(0, 1)
        self.document.relabel(4, 0)
        self.document.insert(5, row("c1 r0"))
        self.document.undo()

    def test_outside_of_the_text(self):
        document = self.document
        for at in (-1, 6, 7, 200):
            self.refused(OutsideText, document.insert, at, row("l0"))
            self.refused(OutsideText, document.insert, at, [])
        for edit, more in ((document.remove, ()), (document.surround, (0, 0))):
            for start, end in ((-1, 0), (-1, -1), (0, 6), (6, 6), (5, 6), (3, 2), (1, 0), (5, 4), (-5, 5)):
                self.refused(OutsideText, edit, start, end, *more)
        for at in (-1, 5, 6, -5, 100):
            self.refused(OutsideText, document.dissolve, at)
            self.refused(OutsideText, document.relabel, at, 0)
        empty = document_of("")
        self.refused(OutsideText, empty.dissolve, 0)
        self.refused(OutsideText, empty.relabel, 0, 0)
        self.refused(OutsideText, empty.insert, 1, row("l0"))
        self.refused(OutsideText, empty.remove, 0, 1)

    def test_labels(self):
        document = self.document
        for words, number in (
            ("l2", 0), ("l0 l1 l5 l7", 2), ("c0 c2 r0 r0", 1), ("c0 r3", 1), ("r4 l2", 0), ("l1 r0 c2", 2),
        ):
            self.assertEqual(self.refused(InvalidPlace, document.insert, 2, row(words)).number, number)
        self.assertEqual(self.refused(InvalidPlace, document.insert, 2, [("letter", -1)]).number, 0)
        for a, b in ((2, 0), (0, 3), (2, 3), (-1, 0), (0, -1)):
            self.assertEqual(self.refused(InvalidPlace, document.surround, 4, 5, a, b).number, 0)
        for at, a in ((0, 2), (1, 2), (3, 3), (0, -1), (4, 2)):
            self.assertEqual(self.refused(InvalidPlace, document.relabel, at, a).number, 0)
        for a in (2, 3, -1):
            self.assertEqual(self.refused(InvalidPlace, document.rewrite, "ones", a).number, 0)
            self.assertEqual(self.refused(InvalidPlace, document.rewrite, "opened", a).number, 0)

    def test_not_balanced(self):
        document = self.document
        for words in ("c0", "r0", "r0 c0", "c0 r0 r0", "l0 c0"):
            for at in (0, 2, 5):
                self.refused(NotBalanced, document.insert, at, row(words))
        for start, end in ((0, 2), (1, 2), (1, 3), (2, 4), (3, 4), (3, 5)):
            self.refused(NotBalanced, document.remove, start, end)
            self.refused(NotBalanced, document.surround, start, end, 0, 0)
        for at in (0, 2, 3, 4):
            self.refused(NotBalanced, document.dissolve, at)

    def test_unknown_names(self):
        for name in ("mine", "anyone", "matched", "", "Ones"):
            for a in (0, 1, 7):
                self.assertEqual(self.refused(UnknownName, self.document.rewrite, name, a).name, name)

    def test_long_texts(self):
        document = kept_document("l1 " * 197 + "c0 r1")
        self.refused(TextTooLong, document.insert, 0, row("l0 l0"))
        self.refused(TextTooLong, document.surround, 0, 1, 0, 0)
        self.refused(TextTooLong, document.surround, 199, 199, 0, 0)
        self.edited(document, "insert", 199, row("l0"))
        self.refused(TextTooLong, document.insert, 200, row("l0"))
        self.edited(document, "insert", 198, [])
        self.edited(document, "dissolve", 197)
        self.edited(document, "surround", 0, 198, 1, 1)
        self.refused(TextTooLong, document.surround, 0, 200, 1, 1)
        self.edited(document, "relabel", 199, 2)
        document.rewrite("ones", 0)
        self.assertEqual((len(document.text()), document.made()), (200, 198))
        self.edited(document, "remove", 0, 200)
        self.edited(document, "insert", 0, nested(100))
        self.check_answers(document)

    def test_the_first_error_of_the_order(self):
        document = kept_document("l0 c0 r0 " + "l1 " * 197)
        self.refused(OutsideText, document.insert, 201, row("c9 " * 5))
        self.refused(InvalidPlace, document.insert, 200, row("l0 c9"))
        self.refused(NotBalanced, document.insert, 200, row("l0 c1"))
        self.refused(TextTooLong, document.insert, 200, row("l0 c1 r1"))
        self.refused(OutsideText, document.surround, 2, 1, 9, 9)
        self.refused(OutsideText, document.surround, 2, 201, 9, 9)
        self.refused(InvalidPlace, document.surround, 0, 2, 9, 0)
        self.refused(InvalidPlace, document.surround, 0, 2, 0, 9)
        self.refused(NotBalanced, document.surround, 0, 2, 0, 0)
        self.refused(TextTooLong, document.surround, 0, 3, 0, 0)
        self.refused(OutsideText, document.remove, 1, 201)
        self.refused(NotBalanced, document.remove, 1, 2)
        self.refused(OutsideText, document.relabel, 200, 9)
        self.refused(UnknownName, document.rewrite, "anyone", 9)

    def test_100_edits_and_the_next_one(self):
        document = kept_document("l0 c0 r0")
        for number in range(100):
            document.relabel(0, number % 2)
        self.assertEqual((document.edits(), document.undone()), (100, 0))
        self.refused(TooManyEdits, document.insert, 0, [])
        self.refused(TooManyEdits, document.insert, 0, row("l0"))
        self.refused(TooManyEdits, document.remove, 0, 0)
        self.refused(TooManyEdits, document.remove, 0, 1)
        self.refused(TooManyEdits, document.surround, 0, 1, 0, 0)
        self.refused(TooManyEdits, document.dissolve, 1)
        self.refused(TooManyEdits, document.relabel, 0, 1)
        self.refused(TooManyEdits, document.rewrite, "ones", 0)
        # All others come ahead of this one.
        self.refused(OutsideText, document.insert, 4, row("l0"))
        self.refused(InvalidPlace, document.insert, 3, row("l2"))
        self.refused(NotBalanced, document.insert, 3, row("c0"))
        self.refused(TextTooLong, document.insert, 3, row("l0 " * 198))
        self.refused(NotBalanced, document.remove, 0, 2)
        self.refused(NotBalanced, document.dissolve, 0)
        self.refused(InvalidPlace, document.surround, 0, 1, 0, 3)
        self.refused(InvalidPlace, document.relabel, 0, 2)
        self.refused(InvalidPlace, document.rewrite, "ones", 2)
        self.refused(UnknownName, document.rewrite, "steps", 0)
        self.assertIs(document.undo(), True)
        self.edited(document, "dissolve", 1)
        self.assertEqual(document.edits(), 100)
        self.refused(TooManyEdits, document.insert, 0, row("l0"))
        for _ in range(100):
            self.assertIs(document.undo(), True)
        self.assertIs(document.undo(), False)
        self.assertEqual(document.text(), row("l0 c0 r0"))
        self.assertEqual((document.edits(), document.undone()), (0, 100))
        for _ in range(100):
            self.assertIs(document.redo(), True)
        self.assertEqual((document.edits(), document.undone()), (100, 0))
        self.assertEqual(document.text(), row("l0"))
        self.check_answers(document)


class UndoAndRedo(Checked):
    def test_nothing_to_undo(self):
        document = kept_document("l0 l1")
        self.assertIs(document.undo(), False)
        self.assertIs(document.redo(), False)
        document.relabel(0, 1)
        self.assertIs(document.redo(), False)
        self.assertEqual((document.text(), document.made(), document.edits()), (row("l1 l1"), 1, 1))
        document.undo()
        self.assertIs(document.undo(), False)
        self.assertEqual((document.text(), document.edits(), document.undone()), (row("l0 l1"), 0, 1))

    def test_one_that_returns_false_changes_nothing(self):
        document = kept_document("c0 l1 r0")
        document.relabel(1, 0)
        self.assertEqual(document.made(), 2)
        self.assertIs(document.redo(), False)
        self.assertEqual(document.made(), 2)
        self.check_answers(document)

    def test_each_edit(self):
        words = "l0 c0 l1 c1 r2 r1 l1"
        for edit in (
            ("insert", 3, row("l1 c0 r0")), ("remove", 3, 5), ("surround", 2, 5, 1, 0), ("dissolve", 1),
            ("relabel", 4, 0), ("relabel", 6, 0), ("insert", 7, []), ("rewrite", "ones", 0),
        ):
            document = kept_document(words)
            before = state_of(document)
            getattr(document, edit[0])(*edit[1:])
            after = state_of(document)
            self.assertGreaterEqual(document.made(), 0)
            for _ in range(3):
                self.assertIs(document.undo(), True)
                self.assertEqual(state_of(document), (*before[:2], 0, 1, 0, LABELS))
                self.check_answers(document)
                self.assertIs(document.redo(), True)
                self.assertEqual(state_of(document), (*after[:2], 1, 0, 0, LABELS))
                self.check_answers(document)

    def test_a_new_edit_discards_what_could_be_made_again(self):
        for edit in (("insert", 0, []), ("relabel", 0, 0), ("rewrite", "ones", 1), ("remove", 0, 0), ("dissolve", 1)):
            document = kept_document("l0 c0 r0")
            document.relabel(0, 1)
            document.insert(0, row("l1"))
            document.undo()
            document.undo()
            self.assertEqual((document.edits(), document.undone()), (0, 2))
            getattr(document, edit[0])(*edit[1:])
            self.assertEqual((document.edits(), document.undone()), (1, 0))
            self.assertIs(document.redo(), False)
            document.undo()
            self.assertEqual(document.text(), row("l0 c0 r0"))

    def test_redo_brings_back_the_text(self):
        # The question under the name means other letters by now.
        document = kept_document("l1 l0 c0 l1 r0")
        document.rewrite("ones", 0)
        document.undo()
        document.keep_question("ones", question("all ( not in x or letter 0 )"))
        document.redo()
        self.assertEqual(document.text(), row("l0 l0 c0 l0 r0"))
        self.assertEqual(document.meant("ones"), [0, 1, 3])
        document.undo()
        self.assertEqual(document.meant("ones"), [1])

    def test_names_stay(self):
        document = document_of("l1 c0 l0 r0")
        document.insert(4, row("c1 l1 r1"))
        document.keep_question("ones", question(QUESTIONS["ones"]))
        document.dissolve(1)
        document.keep_statement("matched", statement(STATEMENTS["matched"]))
        document.undo()
        self.assertEqual((document.meant("ones"), document.holds("matched")), ([0, 5], False))
        document.undo()
        self.assertEqual((document.meant("ones"), document.holds("matched")), ([0], False))
        document.keep_question("zeros", question("all ( not in x or letter 0 )"))
        document.redo()
        document.redo()
        self.assertEqual(document.names(), ["matched", "ones", "zeros"])
        self.assertEqual(document.meant("ones"), [0, 3])
        self.assertEqual(document.meant("zeros"), [1])
        self.assertIs(document.holds("matched"), True)


class Made(Checked):
    def check(self, words, wanted, edit, *arguments):
        """Check what an edit makes with no, one and eight kept sentences."""
        for document in (document_of(words), kept_document(words)):
            getattr(document, edit)(*arguments)
            self.assertEqual(document.made(), wanted)
        one = document_of(words)
        one.keep_statement("a", (END,))
        getattr(one, edit)(*arguments)
        self.assertEqual(one.made(), wanted)
        for again in (one.undo, one.redo):
            self.assertIs(again(), True)
            self.assertEqual(one.made(), 0)

    def test_insert(self):
        words = "l0 c0 c1 l1 r0 r0 l1"
        self.check(words, 0, "insert", 0, [])
        self.check(words, 0, "insert", 1, [])
        self.check(words, 1, "insert", 2, [])
        self.check(words, 2, "insert", 3, [])
        self.check(words, 2, "insert", 4, [])
        self.check(words, 1, "insert", 5, [])
        self.check(words, 0, "insert", 6, [])
        self.check(words, 1, "insert", 0, row("l1"))
        self.check(words, 1, "insert", 7, row("c0 r0"))
        self.check(words, 5, "insert", 3, row("l0 c0 l0 r0"))

    def test_remove(self):
        words = "l0 c0 c1 l1 r0 r0 l1"
        self.check(words, 0, "remove", 0, 1)
        self.check(words, 0, "remove", 1, 6)
        self.check(words, 1, "remove", 2, 5)
        self.check(words, 2, "remove", 3, 4)
        self.check(words, 2, "remove", 3, 3)
        self.check(words, 1, "remove", 5, 5)
        self.check(words, 0, "remove", 0, 7)

    def test_surround(self):
        words = "l0 c0 c1 l1 r0 r0 l1"
        self.check(words, 1, "surround", 0, 7, 0, 0)
        self.check(words, 1, "surround", 1, 1, 0, 0)
        self.check(words, 2, "surround", 2, 5, 0, 0)
        self.check(words, 3, "surround", 3, 4, 0, 0)
        self.check(words, 3, "surround", 4, 4, 0, 0)

    def test_dissolve(self):
        words = "l0 c0 c1 l1 r0 c1 r1 r0 l1"
        self.check(words, 0, "dissolve", 1)
        self.check(words, 1, "dissolve", 2)
        self.check(words, 1, "dissolve", 5)

    def test_relabel(self):
        words = "l0 c0 c1 l1 r0 c1 r1 r0 l1"
        for at, wanted in enumerate((1, 1, 2, 3, 2, 2, 2, 1, 1)):
            self.check(words, wanted, "relabel", at, 0)
            self.check(words, wanted, "relabel", at, 1)

    def test_rewrite(self):
        document = document_of("l0 c0 c1 l1 r0 c1 l0 r1 r0 l1 c0 l1 r0 c1 r1")
        document.keep_question("letters", question(LETTERS))
        document.rewrite("letters", 1)
        self.assertEqual(document.made(), 4)
        document.rewrite("letters", 1)
        self.assertEqual(document.made(), 0)
        document.rewrite("letters", 0)
        self.assertEqual(document.made(), 9)
        document.undo()
        self.assertEqual(document.made(), 0)
        document.redo()
        self.assertEqual(document.made(), 0)
        self.assertIs(document.redo(), False)

    def test_keeping_does_not_change_it(self):
        document = document_of("c0 l0 r0")
        document.relabel(1, 1)
        for name in STATEMENTS:
            document.keep_statement(name, statement(STATEMENTS[name]))
            self.assertEqual(document.made(), 2)
        for name in QUESTIONS:
            document.keep_question(name, question(QUESTIONS[name]))
            self.assertEqual(document.made(), 2)


class ManyEdits(Checked):
    def some_edit(self, chance, text, labels):
        """Choose an edit of a text that is let."""
        depth, stretches = 0, []
        start = chance.randrange(len(text) + 1)
        end = start
        while end <= len(text) and depth >= 0:
            if depth == 0:
                stretches.append((start, end))
            if end < len(text):
                depth += {"letter": 0, "call": 1, "return": -1}[text[end][0]]
            end += 1
        start, end = chance.choice(stretches[:4])
        calls = [at for at, place in enumerate(text) if place[0] == "call"]
        a, b = chance.randrange(labels[1]), chance.randrange(labels[2])
        letters = [("letter", chance.randrange(labels[0])) for _ in range(chance.randrange(3))]
        edits = [("remove", start, end), ("surround", start, end, a, b)]
        edits += [("insert", start, letters), ("insert", end, letters + [("call", a)] + letters + [("return", b)])] * 2
        if calls:
            edits.append(("dissolve", chance.choice(calls)))
        if text:
            at = chance.randrange(len(text))
            many = labels[("letter", "call", "return").index(text[at][0])]
            edits.append(("relabel", at, chance.randrange(many)))
        edits = [edit for edit in edits if len(plain_edited(text, *edit)) <= 200]
        return chance.choice(edits)

    def check_all(self, document, readers):
        text = document.text()
        for name, reader in readers.items():
            self.assertIs(document.holds(name), accepts(reader, text), (name, text))
        for name, written in QUESTIONS.items():
            self.assertEqual(document.meant(name), meant(LABELS, question(written), text), (name, text))

    def run_edits(self, seed, words, count):
        chance = Random(seed)
        document = kept_document(words)
        readers = {name: sentence_reader(LABELS, statement(written)) for name, written in STATEMENTS.items()}
        texts, at = [document.text()], 0
        for _ in range(count):
            choice = chance.random()
            text = document.text()
            if choice < 0.15:
                self.assertIs(document.undo(), at > 0)
                at = max(at - 1, 0)
            elif choice < 0.3:
                self.assertIs(document.redo(), at < len(texts) - 1)
                at = min(at + 1, len(texts) - 1)
            else:
                if choice < 0.4:
                    name, a = chance.choice(list(QUESTIONS)), chance.randrange(2)
                    after, made = plain_rewritten(text, document.meant(name), a)
                    document.rewrite(name, a)
                    self.assertEqual((document.text(), document.made()), (after, made))
                else:
                    self.edited(document, *self.some_edit(chance, text, LABELS))
                at += 1
                texts = texts[:at] + [document.text()]
            self.assertEqual(document.text(), texts[at])
            self.assertEqual((document.edits(), document.undone()), (at, len(texts) - 1 - at))
            self.check_all(document, readers)
        return document

    def test_short_texts(self):
        for seed in range(6):
            self.run_edits(seed, "", 60)

    def test_long_texts(self):
        self.run_edits(7, "c0 l1 c1 l0 r2 r1 l1 l0 " * 20, 40)
        document = self.run_edits(8, "c0 " * 95 + "l1 " + "r1 " * 95, 40)
        self.assertGreater(len(document.text()), 100)

    def test_edits_of_long_texts(self):
        document = kept_document("c0 " * 99 + "l1 l0 " + "r1 " * 99)
        self.edited(document, "relabel", 99, 0)
        self.assertEqual((document.made(), document.meant("ones"), document.holds("anyone")), (100, [], False))
        document.undo()
        self.assertEqual((document.meant("ones"), document.holds("anyone")), ([99], True))
        self.edited(document, "remove", 99, 101)
        self.assertEqual((document.made(), document.holds("matched")), (99, True))
        self.edited(document, "relabel", 99, 2)
        self.assertEqual((document.made(), document.holds("matched"), document.meant("opened")), (99, False, [98]))


if __name__ == "__main__":
    unittest.main()
