import unittest
from itertools import product

from archway.errors import TooManyValues
from archway.joined import denied
from archway.least import least
from archway.marked import marked
from archway.meaning import depth_of, holds, is_valid, size_of
from archway.parsing import read_sentence
from archway.readers import accepts, fault, value
from archway.sentences import reader_with, sentence_reader
from archway.shortest import parting
from tests.plain import texts_with
from tests.plain_parts import plain_many, plain_marked, plain_reader_of
from tests.plain_sentences import plain_depth, plain_size, plain_subsets, rich_sentences, some_sentences
from tests.rows import nested, row
from tests.samples import EDGES, LARGE

ONE = (1, 1, 1)
END = ("nothing",)


class Exact(unittest.TestCase):
    """Readers that were made by hand, with labels (1, 1, 1) unless others are named."""

    def check(self, sentence, given, wanted, labels=ONE):
        self.assertIs(is_valid(labels, sentence), True)
        found = reader_with(labels, sentence, given)
        self.assertEqual(found, wanted)
        self.assertIsNone(fault(found))
        self.assertEqual(plain_reader_of(labels, sentence, given), wanted)
        if given == 0:
            self.assertEqual(sentence_reader(labels, sentence), wanted)

    def test_the_example(self):
        self.check(
            (("letter", 0), ("all", 0)), 0, ((1, 1, 1), 0, (0,), ((0, 1), (1, 1)), (((1, 1),),), (0,)),
        )

    def test_all(self):
        both = ((0, 1), (1, 1))
        # The value 1 is False.
        self.check(
            (("letter", 1), ("all", 0)), 0, ((2, 1, 1), 0, (1, 0), both, (((1, 1),),), (0,)), (2, 1, 1),
        )
        self.check(
            (("letter", 0), ("not", 0), ("all", 1)), 0, (ONE, 0, (1,), both, (((0, 1),),), (0,)),
        )
        self.check(
            (("set", 0), ("all", 0)), 1,
            ((2, 2, 2), 0, (1, 0), both, (((1, 1), (1, 1)), ((1, 1), (0, 1))), (0,)),
        )

    def test_all_without_false(self):
        self.check((("set", 0), ("not", 0), ("all", 1)), 0, (ONE, 0, (0,), ((0,),), (((0,),),), (0,)))

    def test_nothing(self):
        both = ((0, 1), (1, 1))
        self.check((END,), 0, (ONE, 0, (1,), both, (((1, 1),),), (0,)))
        self.check((END,), 1, ((2, 2, 2), 0, (1, 1), both, (((1, 1), (1, 1)), ((1, 1), (1, 1))), (0,)))

    def test_arch(self):
        both = ((0, 1), (1, 1))
        sentence = (("call", 0), ("return", 1), ("arch", 0, 1))
        self.check(
            sentence, 0,
            ((1, 2, 2), 0, (0,), both, (((1, 1), (0, 1)), ((0, 1), (0, 1))), (0,)), (1, 2, 2),
        )
        sentence = (("set", 0), ("not", 0), ("arch", 0, 1))
        self.check(
            sentence, 1,
            ((2, 2, 2), 0, (0, 0), both, (((0, 1), (0, 1)), ((0, 1), (1, 1))), (0,)),
        )

    def test_next(self):
        # 0 "none"; 1 (False, False), which a letter and an arch around nothing have; 2 "broken".
        sentence = (("call", 0), ("return", 0), ("next", 0, 1))
        self.check(
            sentence, 0,
            (ONE, 0, (1,), ((0, 1, 2), (1, 1, 2), (2, 2, 2)), (((1, 2, 2),),), (0, 1)),
        )

    def test_next_with_a_set(self):
        # A place of the set is not directly behind another one. 0 "none", 1 (True, False),
        # 2 (False, True), 3 (True, True), 4 (False, False), 5 "broken".
        mul = (
            (0, 1, 2, 3, 4, 5),
            (1, 1, 3, 3, 1, 5),
            (2, 4, 5, 2, 5, 5),
            (3, 1, 5, 3, 5, 5),
            (4, 4, 2, 2, 4, 5),
            (5, 5, 5, 5, 5, 5),
        )
        wrap = (
            ((1, 1, 1, 1, 1, 5), (3, 3, 5, 5, 3, 5)),
            ((4, 4, 5, 4, 5, 5), (5, 2, 5, 5, 5, 5)),
        )
        self.check(
            (("set", 0), ("not", 0), ("next", 0, 1)), 1,
            ((2, 2, 2), 0, (1, 2), mul, wrap, (0, 1, 2, 3, 4)),
        )

    def test_first(self):
        # 0 "none", 1 False, 2 True.
        first = ((0, 1, 2), (1, 1, 1), (2, 2, 2))
        self.check(
            (("letter", 1), ("first", 0)), 0,
            ((2, 1, 1), 0, (1, 2), first, (((1, 1, 1),),), (0, 2)), (2, 1, 1),
        )
        self.check(
            (("set", 0), ("first", 0)), 1,
            ((2, 2, 2), 0, (1, 2), first, (((1, 1, 1), (1, 1, 1)), ((2, 2, 2), (2, 2, 2))), (0, 2)),
        )
        # 0 "none", 1 True, 2 False.
        self.check((("letter", 0), ("first", 0)), 0, (ONE, 0, (1,), first, (((2, 2, 2),),), (0, 1)))

    def test_last(self):
        # 0 "none", 1 False, 2 True.
        last = ((0, 1, 2), (1, 1, 2), (2, 1, 2))
        self.check(
            (("set", 0), ("last", 0)), 1,
            ((2, 2, 2), 0, (1, 2), last, (((1, 1, 1), (2, 2, 2)), ((1, 1, 1), (2, 2, 2))), (0, 2)),
        )
        self.check(
            (("return", 0), ("last", 0)), 0, (ONE, 0, (1,), last, (((2, 2, 2),),), (0, 2)),
        )

    def test_denied(self):
        both = ((0, 1), (1, 1))
        self.check((END, ("denied", 0)), 0, (ONE, 0, (1,), both, (((1, 1),),), (1,)))
        self.check((END, ("denied", 0), ("denied", 1)), 0, (ONE, 0, (1,), both, (((1, 1),),), (0,)))

    def test_both(self):
        # 0 is empty, 1 are letters alone, 2 is an arch.
        sentence = (END, ("letter", 0), ("all", 1), ("denied", 0), ("both", 3, 2))
        self.check(
            sentence, 0,
            (ONE, 0, (1,), ((0, 1, 2), (1, 1, 2), (2, 2, 2)), (((2, 2, 2),),), (1,)),
        )

    def test_both_of_one_line(self):
        self.check((END, ("both", 0, 0)), 0, (ONE, 0, (1,), ((0, 1), (1, 1)), (((1, 1),),), (0,)))

    def test_there(self):
        # 0 is {True}, 1 is {False, True}.
        sentence = (("set", 0), ("all", 0), ("there", 1))
        self.check(sentence, 0, (ONE, 0, (1,), ((0, 1), (1, 1)), (((1, 1),),), (0, 1)))
        # The given set is no choice: 0 is {True}, 1 is {False}.
        self.check(
            sentence, 1,
            ((2, 2, 2), 0, (1, 0), ((0, 1), (1, 1)), (((1, 1), (1, 1)), ((1, 1), (0, 1))), (0,)),
        )
        # 0 is {True}, 1 is {False}, 2 is {False, True}.
        sentence = (("set", 0), ("set", 1), ("and", 0, 1), ("all", 2), ("there", 3))
        self.check(
            sentence, 1,
            (
                (2, 2, 2), 0, (1, 2), ((0, 1, 2), (1, 1, 1), (2, 1, 2)),
                (((1, 1, 1), (1, 1, 1)), ((1, 1, 1), (2, 1, 2))), (0, 2),
            ),
        )

    def test_there_over_first(self):
        # 0 is {"none"}, 1 is {False, True}.
        sentence = (("set", 0), ("first", 0), ("there", 1))
        self.check(sentence, 0, (ONE, 0, (1,), ((0, 1), (1, 1)), (((1, 1),),), (0, 1)))


class AsTheDocumentSays(unittest.TestCase):
    """The values and tables of point 35, also where they are too many for a hand."""

    def check(self, labels, sentence, given):
        found = reader_with(labels, sentence, given)
        self.assertIsNone(fault(found))
        self.assertEqual(found, plain_reader_of(labels, sentence, given), (labels, sentence, given))
        self.assertEqual(found[0], tuple(many * 2 ** given for many in labels))

    def test_each_kind_of_line(self):
        places = (("set", 0), ("set", 1), ("letter", 0), ("call", 1), ("return", 0), ("not", 0), ("and", 0, 2))
        lines = [END]
        lines += [(name, part) for name in ("all", "first", "last") for part in range(7)]
        lines += [(name, *parts) for name in ("next", "arch") for parts in product((0, 1, 2, 3, 4, 5), repeat=2)]
        for line in lines:
            for labels, given in (((1, 2, 1), 0), ((1, 2, 1), 1), ((2, 2, 2), 0)):
                self.check(labels, places + (line,), given)
                self.check(labels, places + (line, ("denied", 7)), given)
                self.check(labels, places + (line, ("there", 7)), given)
            self.check((1, 2, 1), places + (line, ("there", 7), ("denied", 8), ("there", 9)), 0)
            self.check((1, 2, 1), places + (line, ("set", 2), ("arch", 1, 8), ("both", 7, 9)), 1)

    def test_many_sentences(self):
        for labels, seed in ((ONE, 21), ((2, 1, 2), 22)):
            for sentence in some_sentences(labels, 60, seed=seed, most_depth=2):
                for given in range(3 - plain_depth(sentence)):
                    self.check(labels, sentence, given)

    def test_richer_sentences(self):
        for labels, seed in ((ONE, 31), ((2, 1, 1), 32)):
            for sentence in rich_sentences(labels, 60, seed=seed, most_texts=3, most_depth=1):
                if None not in plain_many(labels, sentence, 0).values():
                    self.check(labels, sentence, 0)


class NextPlaces(unittest.TestCase):
    """What is next to what (point 36)."""

    def check(self, written, words, wanted, labels=(2, 2, 2)):
        sentence = read_sentence(labels, [], written)
        text = row(words)
        self.assertIs(holds(sentence, text, []), wanted)
        self.assertIs(accepts(sentence_reader(labels, sentence), text), wanted, (written, words))

    def test_around_an_empty_stretch(self):
        self.check("next call 0 return 0", "c0 r0", True)
        self.check("next call 0 return 0", "c0 r1", False)
        self.check("next call 0 return 0", "c1 r1", True)
        self.check("next call 0 letter 0", "c0 r0", False)
        self.check("next call 0 call 1", "c0 c1 r0 r0", True)
        self.check("next call 0 call 1", "c0 c1 c0 r0 r0 r0", False)

    def test_around_a_stretch(self):
        self.check("next call 0 return 0", "c0 l0 r0", False)
        self.check("next call 0 letter 0", "c0 l0 r0", True)
        self.check("next call 0 letter 0", "c0 l1 l0 r0", False)
        self.check("next letter 0 return 0", "c0 l0 r0", True)
        self.check("next letter 0 return 0", "c0 l0 r1", False)
        self.check("next letter 0 return 0", "c0 l0 l1 r0", False)
        self.check("next return 0 return 1", "c0 c0 r0 r1", True)
        self.check("next return 0 return 1", "c0 c0 r0 r0", False)

    def test_at_seams(self):
        self.check("next letter 0 letter 1", "l0 l1", True)
        self.check("next letter 0 letter 1", "l0 l0", False)
        self.check("next letter 0 letter 1", "l1 l1 l0 l1 l1", True)
        self.check("next return 0 call 1", "c0 r0 c1 r0", True)
        self.check("next return 0 call 1", "c0 r0 c0 r0", False)
        self.check("next return 0 letter 0", "c0 r0 l0", True)
        self.check("next return 0 letter 0", "c0 r0 l1", False)
        self.check("next letter 0 call 0", "l0 c0 r0", True)
        self.check("next letter 0 call 0", "l0 c1 r0", False)

    def test_what_is_broken_stays_broken(self):
        for words in ("l0 l0", "l0 l0 l1", "l1 l0 l0", "c1 l0 l0 r1", "c1 l1 l0 l0 l1 r1", "l1 c1 l0 l0 r1 l1"):
            self.check("next letter 0 letter 1", words, False)

    def test_alone(self):
        for words in ("", "l0", "l1"):
            self.check("next letter 0 letter 1", words, True)
        self.check("next call 1 letter 0", "c0 r0", True)

    def test_the_first_and_the_last_place_of_a_stretch_count(self):
        self.check("next call 0 call 1", "c0 c1 r0 l0 r0", True)
        self.check("next call 0 call 1", "c0 l0 c1 r0 r0", False)
        self.check("next return 1 return 0", "c0 l0 c0 r1 r0", True)
        self.check("next return 1 return 0", "c0 c0 r1 l0 r0", False)


class Accepting(unittest.TestCase):
    """The reader accepts exactly the marked texts of which the sentence is true (point 37)."""

    def check(self, labels, sentence, given, texts):
        found = reader_with(labels, sentence, given)
        self.assertIsNone(fault(found))
        if given == 0:
            self.assertEqual(sentence_reader(labels, sentence), found)
        for text in texts:
            for sets in product(list(plain_subsets(text)), repeat=given):
                wanted = holds(sentence, text, list(sets))
                self.assertIs(accepts(found, plain_marked(text, sets)), wanted, (sentence, text, sets))

    def check_written(self, labels, names, written, most):
        sentence = read_sentence(labels, names, written)
        self.check(labels, sentence, len(names), texts_with(labels, most))

    def test_written_sentences(self):
        for written in (
            "empty", "any letter 0", "all ( letter 0 or letter 1 )", "( first letter 0 implies last letter 1 )",
            "arch call 0 return 1", "next letter 0 not letter 0",
            "some x ( first in x and ( next in x not in x and next not in x in x ) )",
            "some x ( any in x and next in x in x )",
            "some x some y ( ( any in x and any in y ) and all not ( in x and in y ) )",
            "not some x ( first in x and ( last not in x and ( next in x in x and arch in x in x ) ) )",
        ):
            self.check_written((2, 1, 2), [], written, 3)
            self.check_written((2, 1, 2), ["w"], written, 2)

    def test_three_sets(self):
        self.check_written(ONE, [], "some x some y some z ( next in x in y and arch in y in z )", 4)
        self.check_written(
            ONE, [],
            "some x ( last in x and some y ( next in x in y and not some z ( first in z and arch in z in y ) ) )", 4,
        )
        self.check_written(
            ONE, [], "not some x not some y ( all ( in x or in y ) and some z ( next in x in z and last in z ) )", 4,
        )
        self.check_written(ONE, ["x"], "some y some z ( next in x in y and arch in y in z )", 2)
        self.check_written(ONE, ["x", "y"], "some z ( next in x in z and arch in z in y )", 3)
        self.check_written(ONE, ["x", "y", "z"], "( next in x in y and arch in y in z )", 2)

    def test_lines_that_are_used_several_times(self):
        lines = (("set", 0), ("set", 1), ("not", 0))
        for sentence, most in (
            (lines + (("next", 0, 1), ("denied", 3), ("both", 3, 4), ("there", 3), ("both", 6, 4)), 4),
            (lines + (("first", 0), ("there", 3), ("both", 3, 4), ("denied", 5), ("there", 6)), 4),
            (lines + (("all", 2), ("there", 3), ("there", 4), ("denied", 3), ("both", 5, 6), ("there", 7)), 3),
            (lines + (("arch", 0, 1), ("last", 0), ("both", 3, 4), ("there", 5), ("there", 6), ("both", 6, 7)), 3),
        ):
            self.assertIs(is_valid(ONE, sentence), True)
            for given in range(4 - depth_of(sentence)):
                self.check(ONE, sentence, given, texts_with(ONE, most if given == 0 else 2))

    def test_sets_that_are_neither_given_nor_around(self):
        for number in range(3):
            for name in ("all", "first", "last"):
                sentence = (("set", number), ("not", 0), (name, 0), (name, 1), ("denied", 2), ("both", 3, 4))
                for given in range(number + 2 if number < 2 else 3):
                    self.check(ONE, sentence, given, texts_with(ONE, 3))
            self.check(ONE, (("set", number), ("next", 0, 0), ("there", 1)), 0, texts_with(ONE, 5))

    def test_many_sentences(self):
        for labels, seed, most in ((ONE, 41, 4), ((2, 1, 2), 42, 2)):
            for sentence in some_sentences(labels, 150, seed=seed, most_depth=3, most_size=60):
                for given in range(min(2, 4 - plain_depth(sentence))):
                    self.check(labels, sentence, given, texts_with(labels, most - given))

    def test_richer_sentences(self):
        tried = 0
        for sentence in rich_sentences(ONE, 250, seed=43, most_texts=4):
            given = 3 - plain_depth(sentence) if tried % 2 else 0
            try:
                reader_with(ONE, sentence, given)
            except TooManyValues:
                continue
            self.check(ONE, sentence, given, texts_with(ONE, {0: 4, 1: 3}.get(given, 2)))
            tried += 1
        self.assertGreater(tried, 150)

    def test_long_texts(self):
        even = read_sentence(
            (2, 1, 1), [],
            "( empty or some x ( ( first in x and last not in x ) and "
            "( next in x not in x and next not in x in x ) ) )",
        )
        reader = sentence_reader((2, 1, 1), even)
        for many in (100, 199, 200, 5000, 5001):
            self.assertIs(accepts(reader, row("l1 " * many)), many % 2 == 0)
            self.assertIs(accepts(reader, nested(many)), True)
        inside = read_sentence((2, 1, 1), ["x"], "( any ( in x and letter 1 ) and arch in x not in x )")
        reader = reader_with((2, 1, 1), inside, 1)
        text = nested(3000) + row("l0 " * 3000 + "l1")
        self.assertIs(accepts(reader, marked(text, [[9000]])), True)
        self.assertIs(accepts(reader, marked(text, [[8999]])), False)
        self.assertIs(accepts(reader, marked(text, [[2999, 9000]])), True)
        self.assertIs(accepts(reader, marked(text, [[2999, 3000, 9000]])), False)

    def test_the_same_texts(self):
        # Without the sets, these three say the same.
        readers = [sentence_reader((2, 1, 1), read_sentence((2, 1, 1), [], written)) for written in (
            "any letter 1",
            "some x ( any in x and all ( not in x or letter 1 ) )",
            "not all not letter 1",
        )]
        for one in readers:
            self.assertIsNone(parting(readers[0], one))
            self.assertEqual(parting(readers[0], denied(one)), [])


class TooMany(unittest.TestCase):
    def refused(self, labels, sentence, given):
        self.assertIs(is_valid(labels, sentence), True)
        with self.assertRaises(TooManyValues):
            reader_with(labels, sentence, given)
        if given == 0:
            with self.assertRaises(TooManyValues):
                sentence_reader(labels, sentence)

    def test_sixty_values_and_one_more(self):
        for labels, names, written, many in EDGES:
            sentence = read_sentence(labels, names, written)
            found = plain_many(labels, sentence, len(names))
            last = found.pop((len(sentence) - 1, len(names)))
            self.assertNotIn(None, found.values())
            if many > 60:
                self.assertIsNone(last)
                self.refused(labels, sentence, len(names))
            else:
                self.assertEqual(last, 60)
                reader = reader_with(labels, sentence, len(names))
                self.assertEqual(len(reader[3]), 60)
                self.assertIsNone(fault(reader))
                self.assertEqual(reader, plain_reader_of(labels, sentence, len(names)))

    def test_a_used_line_with_too_many_values(self):
        large = read_sentence(ONE, ["x"], LARGE)
        line = len(large) - 1
        self.refused(ONE, large, 1)
        self.refused(ONE, large + (("denied", line),), 1)
        self.refused(ONE, large + (("there", line),), 0)
        # These say no more than `nothing` does.
        more = (END, ("denied", line + 1), ("both", line, line + 2), ("both", line + 3, line + 1))
        self.refused(ONE, large + more, 1)
        self.refused(ONE, large + (END, ("both", line + 1, line), ("there", line + 2)), 0)
        self.refused(ONE, large + (("denied", line), ("both", line, line + 1), ("there", line + 2)), 0)

    def test_a_line_that_is_not_used(self):
        large = read_sentence(ONE, ["x"], LARGE)
        for given in range(3):
            self.assertEqual(reader_with(ONE, large + (END,), given), reader_with(ONE, (END,), given))
        self.assertEqual(sentence_reader(ONE, large + (("there", len(large) - 1), END)), sentence_reader(ONE, (END,)))

    def test_a_line_with_too_many_values_for_some_sets_only(self):
        # With no set at all there is little to tell.
        large = read_sentence(ONE, ["x"], LARGE)
        self.assertLess(len(reader_with(ONE, large, 0)[3]), 60)
        self.refused(ONE, large + (("there", len(large) - 1), ("both", len(large), len(large) - 1)), 0)

    def test_lines_that_are_used_very_often(self):
        doubled = (("set", 0), ("and", 0, 0)) + tuple(("and", number, number) for number in range(1, 29))
        doubled += (("next", 29, 0),) + tuple(("both", number, number) for number in range(30, 59))
        self.assertEqual(len(doubled), 60)
        self.assertGreater(size_of(doubled), 2 ** 57)
        plain = (("set", 0), ("next", 0, 0))
        self.assertEqual(reader_with((3, 3, 3), doubled, 3), reader_with((3, 3, 3), plain, 3))

    def test_the_most_labels(self):
        sentence = read_sentence((3, 3, 3), [], "some x some y some z ( next in x in y and next in y in z )")
        reader = sentence_reader((3, 3, 3), sentence)
        self.assertEqual(len(least(reader)[3]), 1)
        given = reader_with((3, 3, 3), sentence[:-3], 3)
        self.assertEqual((given[0], len(given[4]), len(given[4][23])), ((24, 24, 24), 24, 24))
        self.assertEqual(value(given, []), 0)
        self.assertLessEqual(plain_size(sentence), 60)


if __name__ == "__main__":
    unittest.main()
