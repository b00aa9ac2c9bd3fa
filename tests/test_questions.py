import unittest
from random import Random

from archway.errors import TooManyValues
from archway.meaning import holds
from archway.parsing import read_sentence
from archway.questions import meant, meant_at, meant_count, meant_pairs
from archway.readers import accepts
from archway.sentences import reader_with
from tests.plain import texts_with
from tests.plain_parts import plain_marked
from tests.plain_sentences import plain_depth, rich_sentences, some_sentences
from tests.rows import nested, row
from tests.samples import EDGES, LARGE

LABELS = (2, 1, 2)
END = ("nothing",)

# These mean the letters 1; the places from which on there is no letter 1; and those behind a return.
LETTERS = "all ( not in x or letter 1 )"
RESTS = "some y ( next in y in y and all ( ( not in x or in y ) and not ( in y and letter 1 ) ) )"
BEHIND = "( not first in x and not next ( return 0 or return 1 ) not in x )"


class Meant(unittest.TestCase):
    def check(self, labels, sentence, text):
        """Hold everything against `holds` with each place alone."""
        before = list(text)
        wanted = [place for place in range(len(text)) if holds(sentence, text, [[place]])]
        found = meant(labels, sentence, text)
        self.assertEqual(found, wanted, (sentence, text))
        self.assertIsInstance(found, list)
        self.check_numbers(labels, sentence, text, wanted)
        self.assertEqual(text, before)

    def check_numbers(self, labels, sentence, text, wanted):
        self.assertEqual(meant_count(labels, sentence, text), len(wanted))
        if wanted:
            self.assertEqual(meant_at(labels, sentence, text, 0), wanted[0])
            self.assertEqual(meant_at(labels, sentence, text, len(wanted) // 2), wanted[len(wanted) // 2])
            self.assertEqual(meant_at(labels, sentence, text, len(wanted) - 1), wanted[-1])
        self.assertIsNone(meant_at(labels, sentence, text, len(wanted)))

    def check_written(self, written, words, wanted):
        sentence = read_sentence(LABELS, ["x"], written)
        self.check(LABELS, sentence, row(words))
        self.assertEqual(meant(LABELS, sentence, row(words)), wanted)

    def test_places(self):
        self.check_written(LETTERS, "", [])
        self.check_written(LETTERS, "l1", [0])
        self.check_written(LETTERS, "l0 l1 c0 l1 l0 r0 l1", [1, 3, 6])
        self.check_written(LETTERS, "l0 c0 r1", [])
        self.check_written(BEHIND, "l0 c0 l0 r1 l0 c0 c0 r0 r1 c0 r0", [4, 8, 9])

    def test_calls_and_returns(self):
        self.check_written("all ( not in x or call 0 )", "c0 l0 r0 c0 c0 r1 r0", [0, 3, 4])
        self.check_written("all ( not in x or return 1 )", "c0 l0 r0 c0 c0 r1 r0", [5])
        self.check_written("arch not in x return 0", "c0 l0 r1 c0 r0", [0])
        self.check_written("first in x", "c0 l0 r0", [0])
        self.check_written("last in x", "c0 l0 r0", [2])

    def test_with_there(self):
        self.check_written(RESTS, "c0 l1 r0 c0 r0", [2, 3, 4])
        self.check_written(RESTS, "l0 c0 c0 l1 r0 r1", [4, 5])
        self.check_written(RESTS, "l0 c0 r0 l1", [])
        self.check_written(RESTS, "l0 c0 r0", [0, 1, 2])

    def test_all_and_no_places(self):
        every, no_place = (END, ("denied", 0), ("both", 0, 1), ("denied", 2)), (END, ("denied", 0), ("both", 0, 1))
        for words in ("", "l0", "c0 r0", "l0 c0 c0 l1 r0 r1 l0"):
            text = row(words)
            self.check(LABELS, every, text)
            self.check(LABELS, no_place, text)
            self.assertEqual(meant(LABELS, every, text), list(range(len(text))))
            self.assertEqual(meant(LABELS, no_place, text), [])

    def test_sentences_about_no_set(self):
        # All places are meant, or none.
        sentence = read_sentence(LABELS, [], "any letter 1")
        self.assertEqual(meant(LABELS, sentence, row("l0 c0 l1 r0")), [0, 1, 2, 3])
        self.assertEqual(meant(LABELS, sentence, row("l0 c0 l0 r0")), [])

    def test_many_sentences(self):
        for labels, seed, most in (((1, 1, 1), 51, 4), (LABELS, 52, 2)):
            for sentence in some_sentences(labels, 80, seed=seed, most_depth=2):
                for text in texts_with(labels, most if plain_depth(sentence) == 2 else most + 1):
                    self.check(labels, sentence, text)

    def test_richer_sentences(self):
        tried = 0
        for sentence in rich_sentences((1, 1, 1), 100, seed=53, most_texts=4, most_depth=2):
            try:
                reader_with((1, 1, 1), sentence, 1)
            except TooManyValues:
                continue
            tried += 1
            for text in texts_with((1, 1, 1), 5 - plain_depth(sentence)):
                self.check((1, 1, 1), sentence, text)
        self.assertGreater(tried, 60)

    def test_longer_texts(self):
        chance = Random(3)
        texts = [row("l0 c0 l1 c0 r0 l1 r1 l1 c0 c0 l1 r1 r0 l0"), row("c0 " * 5 + "l1 " + "r0 r1 l0 " * 2 + "r0 ")]
        for sentence in some_sentences(LABELS, 60, seed=54, most_depth=0) + rich_sentences(LABELS, 40, 55, 4, 0):
            try:
                self.check(LABELS, sentence, chance.choice(texts))
            except TooManyValues:
                continue

    def test_long_texts(self):
        sentence = read_sentence(LABELS, ["x"], LETTERS)
        text = nested(50) + row("l1 l0 " * 40) + nested(10)
        self.assertEqual(meant(LABELS, sentence, text), list(range(100, 180, 2)))
        self.assertEqual(meant_at(LABELS, sentence, text, 39), 178)
        for number in (40, 41, 500):
            self.assertIsNone(meant_at(LABELS, sentence, text, number))
        deep = row("c0 " * 99) + row("l1") + row("r0 " * 99)
        self.assertEqual(meant(LABELS, sentence, deep), [99])
        self.assertEqual(meant(LABELS, read_sentence(LABELS, ["x"], BEHIND), deep), list(range(101, 199)))
        self.assertEqual(meant(LABELS, sentence, nested(1000) + row("l0 l1")), [2001])

    def test_too_many_values(self):
        large = read_sentence((1, 1, 1), ["x"], LARGE)
        line = len(large) - 1
        for sentence in (large, large + (END, ("both", line, line + 1)), large + (("denied", line),)):
            for text in ([], row("l0")):
                for ask in (meant, meant_count):
                    with self.assertRaises(TooManyValues):
                        ask((1, 1, 1), sentence, text)
                with self.assertRaises(TooManyValues):
                    meant_at((1, 1, 1), sentence, text, 0)
        self.assertEqual(meant((1, 1, 1), large + (END, ("denied", line + 1)), row("l0")), [0])


class Pairs(unittest.TestCase):
    def check(self, labels, sentence, text):
        """Hold the pairs against `holds` with each pair of places."""
        before = list(text)
        places = range(len(text))
        wanted = [(i, j) for i in places for j in places if holds(sentence, text, [[i], [j]])]
        found = meant_pairs(labels, sentence, text)
        self.assertEqual(found, wanted, (sentence, text))
        self.assertIsInstance(found, list)
        self.assertEqual(text, before)

    def check_written(self, written, words, wanted):
        sentence = read_sentence(LABELS, ["x", "y"], written)
        self.check(LABELS, sentence, row(words))
        self.assertEqual(meant_pairs(LABELS, sentence, row(words)), wanted)

    def test_pairs(self):
        self.check_written("empty", "", [])
        self.check_written("not empty", "l0", [(0, 0)])
        self.check_written("not empty", "l0 l1", [(0, 0), (0, 1), (1, 0), (1, 1)])
        self.check_written("( first in x and last in y )", "c0 l0 r0", [(0, 2)])
        self.check_written("( first in y and last in x )", "c0 l0 r0", [(2, 0)])
        self.check_written("( not last in x and next in x in y )", "l0 c0 l1 r1", [(0, 1), (1, 2), (2, 3)])
        self.check_written(
            "( all ( not in x or call 0 ) and arch in x in y )", "c0 c0 r1 l0 r0 c0 r0", [(0, 4), (1, 2), (5, 6)],
        )

    def test_one_place_twice(self):
        self.check_written("any ( in x and in y )", "l0 c0 r0", [(0, 0), (1, 1), (2, 2)])
        self.check_written("any ( in x and ( not in y and letter 0 ) )", "l0 c0 r0", [(0, 1), (0, 2)])
        self.check_written("any ( in y and ( not in x and letter 0 ) )", "l0 c0 r0", [(1, 0), (2, 0)])

    def test_many_sentences(self):
        for labels, seed, most in (((1, 1, 1), 61, 4), (LABELS, 62, 2)):
            for sentence in some_sentences(labels, 60, seed=seed, most_depth=1):
                for text in texts_with(labels, most):
                    self.check(labels, sentence, text)

    def test_richer_sentences(self):
        tried = 0
        for sentence in rich_sentences((1, 1, 1), 100, seed=63, most_texts=3, most_depth=1):
            try:
                reader_with((1, 1, 1), sentence, 2)
            except TooManyValues:
                with self.assertRaises(TooManyValues):
                    meant_pairs((1, 1, 1), sentence, row("l0"))
                continue
            tried += 1
            for text in texts_with((1, 1, 1), 4):
                self.check((1, 1, 1), sentence, text)
        self.assertGreater(tried, 60)

    def test_long_texts(self):
        sentence = read_sentence(LABELS, ["x", "y"], "( all ( not in x or call 0 ) and arch in x in y )")
        self.assertEqual(meant_pairs(LABELS, sentence, nested(100)), [(call, 199 - call) for call in range(100)])
        nexts = read_sentence(LABELS, ["x", "y"], "( not last in x and next in x in y )")
        text = row("l0 l1 c0 l1 r0 " * 40)
        self.assertEqual(meant_pairs(LABELS, nexts, text), [(place, place + 1) for place in range(199)])
        reader = reader_with(LABELS, nexts, 2)
        self.assertIs(accepts(reader, plain_marked(text, [[7], [8]])), True)

    def test_too_many_values(self):
        for labels, names, written, many in EDGES:
            if len(names) == 2:
                sentence = read_sentence(labels, names, written)
                if many > 60:
                    with self.assertRaises(TooManyValues):
                        meant_pairs(labels, sentence, [])
                else:
                    for text in texts_with(labels, 3):
                        self.check(labels, sentence, text)


if __name__ == "__main__":
    unittest.main()
