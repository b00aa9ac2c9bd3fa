import unittest
from itertools import product
from random import Random

from archway.meaning import depth_of, holds, is_valid, size_of
from tests.plain import texts_with
from tests.plain_sentences import (
    PLACE_NAMES, plain_depth, plain_holds, plain_size, plain_subsets, some_sentences,
)
from tests.rows import nested, row

# For each form of line, with two lines about one place (0, 1) and two about a text (2, 3) ahead.
AHEAD = (("set", 0), ("letter", 0), ("nothing",), ("all", 0))
ONE_PLACE = ("not", "all", "first", "last")
TWO_PLACES = ("and", "next", "arch")
TEXT_FORMS = (
    ("all", 0), ("next", 0, 1), ("next", 1, 1), ("arch", 1, 0), ("first", 1), ("last", 0),
    ("nothing",), ("denied", 2), ("both", 2, 3), ("both", 3, 3), ("there", 3),
)
PLACE_FORMS = (
    ("set", 0), ("set", 2), ("letter", 0), ("call", 0), ("return", 0), ("not", 0), ("and", 0, 1), ("and", 1, 1),
)
END = ("nothing",)


class IsValid(unittest.TestCase):
    def valid(self, sentence, labels=(1, 1, 1)):
        self.assertIs(is_valid(labels, sentence), True, sentence)

    def refused(self, sentence, labels=(1, 1, 1)):
        self.assertIs(is_valid(labels, sentence), False, sentence)

    def refused_line(self, line, labels=(1, 1, 1)):
        """Check a line that is wrong, last or not, used or not."""
        self.refused(AHEAD + (line,), labels)
        self.refused(AHEAD + (line, END), labels)
        self.refused(AHEAD + (line, END, ("denied", 4)), labels)

    def test_each_form(self):
        for line in TEXT_FORMS:
            self.valid(AHEAD + (line,))
            self.valid(AHEAD + (line, ("denied", 4)))
        for line in PLACE_FORMS:
            self.valid(AHEAD + (line, ("all", 4)))
            self.valid(AHEAD + (line, END))

    def test_the_number_of_lines(self):
        self.refused(())
        self.valid((END,))
        self.valid((END,) * 60)
        self.refused((END,) * 61)
        self.refused((END,) * 100)
        self.valid((("set", 0),) * 59 + (("all", 3),))

    def test_unknown_names(self):
        for name in ("", "some", "or", "any", "empty", "in", "implies", "All", "sets", "thereis"):
            self.refused_line((name,))
            self.refused_line((name, 0))
            self.refused_line((name, 0, 1))
            self.refused_line((name, 2, 3))

    def test_an_empty_line(self):
        self.refused_line(())
        self.refused(((),))
        self.refused(((), END))

    def test_a_number_too_many_or_too_few(self):
        for line in TEXT_FORMS + PLACE_FORMS:
            self.refused_line(line + (0,))
            self.refused_line(line + (2,))
            if len(line) > 1:
                self.refused_line(line[:-1])
                self.refused_line(line[:1])

    def test_line_numbers_are_below_their_own(self):
        for line in TEXT_FORMS + PLACE_FORMS:
            if line[0] in ("set", "letter", "call", "return"):
                continue
            for at in range(1, len(line)):
                for number in (4, 5, 60, -1, -2, -4):
                    self.refused_line(line[:at] + (number,) + line[at + 1:])
        self.refused((("all", 0),))
        self.refused((("denied", 0),))
        self.refused((("denied", 1), ("nothing",)))
        self.refused((END, ("denied", -1)))
        self.refused((("set", 0), ("all", -1)))

    def test_lines_of_the_right_kind(self):
        for name in ONE_PLACE:
            self.refused_line((name, 2))
            self.refused_line((name, 3))
        for name in TWO_PLACES:
            self.refused_line((name, 0, 2))
            self.refused_line((name, 3, 1))
            self.refused_line((name, 2, 3))
        for name in ("denied", "there"):
            self.refused_line((name, 0))
            self.refused_line((name, 1))
        self.refused_line(("both", 0, 2))
        self.refused_line(("both", 3, 1))
        self.refused_line(("both", 0, 1))

    def test_each_form_of_line_is_about_a_place_or_a_text(self):
        for line in PLACE_FORMS:
            self.valid(AHEAD + (line, ("not", 4), ("all", 5)))
            self.refused(AHEAD + (line, ("denied", 4)))
        for line in TEXT_FORMS:
            self.valid(AHEAD + (line, ("denied", 4), ("both", 4, 5)))
            self.refused(AHEAD + (line, ("not", 4), END))

    def test_labels(self):
        for labels in ((1, 2, 3), (3, 1, 2), (2, 3, 1)):
            for name, many in zip(("letter", "call", "return"), labels):
                for label in range(many):
                    self.valid(((name, label), ("all", 0)), labels)
                for label in (many, many + 1, 24, -1):
                    self.refused(((name, label), ("all", 0)), labels)
                    self.refused(((name, label), END), labels)

    def test_sets(self):
        for number in (0, 1, 2):
            self.valid((("set", number), ("all", 0)))
        for number in (-1, 3, 4, 60):
            self.refused((("set", number), ("all", 0)))
            self.refused((("set", number), END))

    def test_the_last_line_is_about_a_text(self):
        for line in PLACE_FORMS:
            self.refused(AHEAD + (line,))
        self.refused((("set", 0),))

    def test_the_depth_does_not_matter(self):
        self.valid((END,) + tuple(("there", number) for number in range(59)))

    def test_a_single_change(self):
        chance = Random(11)
        for sentence in some_sentences((2, 1, 3), 60, seed=12):
            self.valid(sentence, (2, 1, 3))
            at = chance.randrange(len(sentence))
            for line in ((), ("set", 3), ("letter", 2), ("call", 1), ("return", 3), ("not", at), ("there", at)):
                self.refused(sentence[:at] + (line,) + sentence[at + 1:], (2, 1, 3))


class DepthAndSize(unittest.TestCase):
    def check(self, sentence, depth, size):
        self.assertEqual(depth_of(sentence), depth)
        self.assertEqual(size_of(sentence), size)

    def test_single_lines(self):
        self.check((END,), 0, 1)
        self.check((END, ("denied", 0)), 0, 2)
        self.check((END, ("there", 0)), 1, 2)
        self.check((("set", 0), ("all", 0)), 0, 2)
        self.check((("letter", 0), ("first", 0)), 0, 2)

    def test_each_form(self):
        for line, size in zip(TEXT_FORMS, (2, 3, 3, 3, 2, 2, 1, 2, 4, 5, 3)):
            self.check(AHEAD + (line,), 1 if line[0] == "there" else 0, size)
        for line, size in zip(PLACE_FORMS, (1, 1, 1, 1, 1, 2, 3, 3)):
            self.check(AHEAD + (line, ("all", 4)), 0, size + 1)

    def test_numbers_that_are_not_line_numbers(self):
        self.check((("set", 0), ("set", 2), ("not", 1), ("all", 2)), 0, 3)
        self.check((("set", 0), ("letter", 1), ("not", 1), ("all", 2)), 0, 3)
        self.check((("set", 0), ("call", 1), ("return", 2), ("next", 1, 2)), 0, 3)

    def test_lines_that_are_used_several_times(self):
        self.check((("set", 0), ("and", 0, 0), ("and", 1, 1), ("all", 2)), 0, 8)
        self.check((END, ("there", 0), ("both", 1, 1), ("there", 2), ("both", 3, 1)), 2, 9)
        doubled = (END,) + tuple(("both", number, number) for number in range(59))
        self.check(doubled, 0, 2 ** 60 - 1)

    def test_lines_that_are_not_used(self):
        self.check((END, ("there", 0), ("there", 1), END), 0, 1)
        self.check((END, ("there", 0), ("there", 1), ("denied", 1)), 1, 3)
        self.check((("set", 0), END, ("all", 0), ("there", 2), ("denied", 1)), 0, 2)

    def test_the_greatest_depth_counts(self):
        one = (END, ("there", 0), ("there", 1))
        self.check(one + (("both", 0, 2),), 2, 5)
        self.check(one + (("both", 2, 0),), 2, 5)
        self.check(one + (("both", 2, 1), ("denied", 3)), 2, 7)
        self.check((END,) + tuple(("there", number) for number in range(59)), 59, 60)
        self.check(one + (("denied", 2), ("there", 3)), 3, 5)

    def test_many_sentences(self):
        for sentence in some_sentences((1, 1, 1), 200, seed=3, most_depth=9, most_size=5000):
            self.check(sentence, plain_depth(sentence), plain_size(sentence))


class Holds(unittest.TestCase):
    def check(self, sentence, words, sets, wanted):
        text = row(words)
        given = [list(one) for one in sets]
        self.assertIs(is_valid((3, 3, 3), sentence), True)
        self.assertIs(plain_holds(sentence, text, sets), wanted)
        self.assertIs(holds(sentence, text, given), wanted)
        self.assertEqual(text, row(words))
        self.assertEqual(given, [list(one) for one in sets])

    def test_nothing(self):
        self.check((END,), "", [], True)
        self.check((END,), "l0", [], False)
        self.check((END,), "c0 r0", [], False)
        self.check((END, ("denied", 0)), "", [], False)
        self.check((END, ("denied", 0)), "l0", [], True)

    def test_all(self):
        letters = (("letter", 1), ("all", 0))
        self.check(letters, "", [], True)
        self.check(letters, "l1 l1", [], True)
        self.check(letters, "l1 l0", [], False)
        self.check(letters, "l0 l1", [], False)
        self.check(letters, "l1 c1 r1", [], False)

    def test_kinds_and_labels_of_places(self):
        for name, sign in (("letter", "l"), ("call", "c"), ("return", "r")):
            for a, b in product(range(3), repeat=2):
                sentence = ((name, a), ("not", 0), ("all", 1), ("denied", 2))
                words = f"l{b}" if sign == "l" else f"c{b} r{(b + 1) % 3}"
                self.check(sentence, words, [], plain_holds(sentence, row(words), []))
        self.check((("call", 1), ("first", 0)), "c1 r2", [], True)
        self.check((("return", 1), ("first", 0)), "c1 r1", [], False)
        self.check((("call", 1), ("last", 0)), "c1 r1", [], False)
        self.check((("return", 2), ("last", 0)), "c1 r2", [], True)
        self.check((("letter", 1), ("last", 0)), "c1 r1", [], False)

    def test_first_and_last(self):
        for name, words, wanted in (
            ("first", "", True), ("first", "l1 l0", True), ("first", "l0 l1", False), ("first", "c1 l1 r1", False),
            ("last", "", True), ("last", "l0 l1", True), ("last", "l1 l0", False), ("last", "c1 l1 r1", False),
            ("first", "l1", True), ("last", "l1", True), ("first", "l0", False), ("last", "l0", False),
        ):
            self.check((("letter", 1), (name, 0)), words, [], wanted)

    def test_next(self):
        sentence = (("letter", 0), ("letter", 1), ("next", 0, 1))
        self.check(sentence, "", [], True)
        self.check(sentence, "l0", [], True)
        self.check(sentence, "l0 l1", [], True)
        self.check(sentence, "l1 l0", [], True)
        self.check(sentence, "l0 l0", [], False)
        self.check(sentence, "l0 l1 l0 l2", [], False)
        self.check(sentence, "l0 l1 l2 l0", [], True)
        self.check(sentence, "l0 c0 l1 r0", [], False)
        self.check((("call", 0), ("letter", 0), ("next", 0, 1)), "c0 l0 r0 c0 l0 r0", [], True)
        self.check((("call", 0), ("return", 0), ("next", 0, 1)), "c0 r0", [], True)
        self.check((("return", 0), ("call", 1), ("next", 0, 1)), "c0 r0 c1 r0 l0", [], False)

    def test_arch(self):
        sentence = (("call", 0), ("return", 1), ("arch", 0, 1))
        self.check(sentence, "", [], True)
        self.check(sentence, "l0", [], True)
        self.check(sentence, "c0 r1", [], True)
        self.check(sentence, "c0 r0", [], False)
        self.check(sentence, "c1 r0", [], True)
        self.check(sentence, "c0 c1 r0 r1", [], True)
        self.check(sentence, "c1 c0 r0 r1", [], False)
        self.check(sentence, "c0 l0 r1 c0 c0 r1 r1", [], True)
        self.check(sentence, "c0 l0 r1 c0 c0 r1 r0", [], False)

    def test_not_and_both(self):
        both = (("letter", 0), ("set", 0), ("and", 0, 1), ("not", 2), ("all", 3))
        self.check(both, "l0 l1", [[1]], True)
        self.check(both, "l0 l1", [[0]], False)
        self.check(both, "l0 l1", [[]], True)
        sentence = (("letter", 0), ("letter", 1), ("first", 0), ("last", 1), ("both", 2, 3))
        self.check(sentence, "l0 l1", [], True)
        self.check(sentence, "l0 l0", [], False)
        self.check(sentence, "l1 l1", [], False)
        self.check(sentence, "l1 l0", [], False)

    def test_given_sets(self):
        for number in range(3):
            sentence = (("set", number), ("all", 0))
            for sets in product(([], [0], [1], [0, 1]), repeat=3):
                self.check(sentence, "l0 l0", list(sets), sets[number] == [0, 1])

    def test_sets_that_are_neither_given_nor_around_are_empty(self):
        for number in range(3):
            sentence = (("set", number), ("not", 0), ("all", 1))
            self.check(sentence, "l0 c0 r0", [], True)
            self.check(sentence, "l0 c0 r0", [[0, 1, 2]], number > 0)
            self.check(sentence, "l0 c0 r0", [[0, 1, 2], [0, 1, 2]], number > 1)
        # The set 1 is empty in a `there` that has the number 0.
        self.check((("set", 1), ("all", 0), ("there", 1)), "l0", [], False)
        self.check((("set", 1), ("all", 0), ("there", 1)), "l0", [[]], True)

    def test_there(self):
        # There is a set with the first place and not the last one.
        sentence = (
            ("set", 0), ("first", 0), ("last", 0), ("denied", 2), ("both", 1, 3), ("there", 4),
        )
        self.check(sentence, "l0", [], False)
        self.check(sentence, "l0 l0", [], True)
        self.check(sentence, "", [], False)
        self.check((("set", 0), ("all", 0), ("there", 1)), "", [], True)
        self.check((("set", 0), ("all", 0), ("there", 1)), "c0 r0", [], True)

    def test_every_second_place(self):
        # There is a set with the first place, with every second one, and without the last one.
        sentence = (
            ("set", 0), ("not", 0), ("next", 0, 1), ("next", 1, 0), ("both", 2, 3),
            ("first", 0), ("last", 1), ("both", 5, 6), ("both", 4, 7), ("there", 8),
        )
        for many in range(11):
            self.check(sentence, "l0 " * many, [], many % 2 == 0)

    def test_the_set_of_a_there_has_the_next_number(self):
        for given in range(3):
            sets = [[]] * given
            for number in range(3):
                self.check((("set", number), ("all", 0), ("there", 1)), "l0", sets, number == given)

    def test_there_in_one_another(self):
        # The inner set is all but the outer one; the outer one has the first place alone.
        sentence = (
            ("set", 0), ("set", 1), ("not", 0), ("not", 1), ("and", 0, 1), ("and", 2, 3), ("not", 4), ("not", 5),
            ("and", 6, 7), ("all", 8), ("first", 0), ("next", 0, 1), ("next", 1, 1), ("both", 9, 10),
            ("both", 13, 11), ("both", 14, 12), ("there", 15), ("there", 16),
        )
        for words in ("", "l0", "l0 l0", "c0 l0 r0"):
            self.check(sentence, words, [], True)
            sets = [list(range(len(row(words))))[:1]]
            self.check(sentence, words, sets, plain_holds(sentence, row(words), sets))

    def test_a_line_inside_different_numbers_of_there(self):
        # The set 0 is given or empty outside, and the one of the `there` inside.
        line = (("set", 0), ("all", 0))
        for sentence in (
            line + (("there", 1), ("both", 1, 2)),
            line + (("there", 1), ("denied", 1), ("both", 2, 3)),
            line + (("there", 1), ("there", 2), ("denied", 1), ("both", 3, 4)),
            (("set", 1), ("all", 0), ("there", 1), ("there", 2), ("denied", 2), ("both", 3, 4)),
            (("set", 1), ("all", 0), ("there", 1), ("there", 2), ("denied", 1), ("both", 2, 4), ("there", 5)),
        ):
            for words in ("", "l0", "l0 l0", "c0 r0"):
                every = list(range(len(row(words))))
                for sets in ([], [[]], [every[:1]], [every[:1], every[:1]], [[], every]):
                    self.check(sentence, words, sets, plain_holds(sentence, row(words), sets))

    def test_every_line_that_is_read_is_read_by_itself(self):
        sentence = (("set", 0), ("all", 0), ("there", 1), ("denied", 1), ("both", 2, 3))
        self.check(sentence, "l0", [], True)

    def test_many_sentences_on_short_texts(self):
        chance = Random(5)
        texts = texts_with((1, 1, 1), 4) + texts_with((2, 1, 2), 2)
        for sentence in some_sentences((2, 1, 2), 400, seed=4):
            for text in chance.sample(texts, 6):
                every = list(plain_subsets(text))
                for given in range(4 - plain_depth(sentence)):
                    sets = [chance.choice(every) for _ in range(given)]
                    kept = [list(one) for one in sets]
                    before = list(text)
                    wanted = plain_holds(sentence, text, sets)
                    self.assertIs(holds(sentence, text, sets), wanted, (sentence, text, sets))
                    self.assertEqual((text, sets), (before, kept))

    def test_long_texts_without_there(self):
        sentence = (("letter", 0), ("call", 0), ("return", 0), ("next", 0, 0), ("next", 1, 1), ("arch", 1, 2))
        for last, words, wanted in (
            (3, "l0 " * 200, True), (3, "l0 " * 199 + "l1", False), (3, "l1 " * 500, True),
        ):
            self.assertIs(holds(sentence[:last + 1], row(words), []), wanted)
        self.assertIs(holds(sentence, nested(100), []), True)
        self.assertIs(holds(sentence, nested(99) + row("c0 r1"), []), False)
        self.assertIs(holds(sentence[:5], nested(100), []), False)
        self.assertIs(holds((("set", 1), ("last", 0)), row("l0 " * 200), [[0], [3, 199]]), True)
        self.assertIs(holds((("set", 1), ("last", 0)), row("l0 " * 200), [[199], [198]]), False)

    def test_the_most_sets_to_try(self):
        # No set fits; with 12 places there are 4096 of them.
        none = (("set", 0), ("first", 0), ("denied", 1), ("both", 1, 2), ("there", 3))
        self.assertIs(holds(none, row("l0 " * 12), []), False)
        self.assertIs(holds(none, row("c0 r0 " * 6), [[0]]), False)
        last = (("set", 0), ("all", 0), ("there", 1))
        self.assertIs(holds(last, row("l0 " * 12), []), True)
        pairs = none[:4] + (("there", 3), ("there", 4))
        self.assertIs(holds(pairs, row("l0 " * 6), []), False)
        triples = none[:4] + (("there", 3), ("there", 4), ("there", 5))
        self.assertIs(holds(triples, row("l0 " * 4), []), False)

    def test_the_forms_about_places(self):
        self.assertEqual(sorted({line[0] for line in PLACE_FORMS}), sorted(PLACE_NAMES))


if __name__ == "__main__":
    unittest.main()
