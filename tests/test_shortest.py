import unittest
from itertools import product

from archway.errors import DifferentLabels, TextTooLong, TooManyValues
from archway.readers import accepts, fault, value
from archway.shortest import lengths, parting, shortest, text_of, together
from archway.values import numbered, values
from tests.plain import JOINED, plain_joint, plain_lengths, plain_text_of, texts_with
from tests.rows import row
from tests.samples import (
    ALL, DEPTH, FLIPS, NOTHING, ONE_VALUE, PARITY, RESETS, UNIT_LAST,
    cyclic, cyclic_flat, long_chain, maps, ruled, trees, turned,
)

KINDS = ("both", "either", "one", "but_not")
TURNED = maps(2, [(1, 0), (1, 1)], turned, lambda one: one[1] == 1)
SAMPLES = [numbered(reader) for reader in ALL] + [
    cyclic(9, [4], (2, 2, 2), by_arch=1),
    cyclic(12, [4], (1, 3, 3), by_arch=2),
    numbered(cyclic(7, [4], (3, 1, 2), by_arch=5)),
]


def arch_values(names):
    """A reader in which empty arches with these labels have values by these names."""
    return ruled(["l"], {}, {(a, b, ""): name for (a, b), name in names.items()}, [])


class Lengths(unittest.TestCase):
    def test_the_empty_text_letters_and_arches(self):
        self.assertEqual(lengths(PARITY), [0, 1])
        self.assertEqual(lengths(DEPTH), [0, 2, 4])
        self.assertEqual(lengths(ONE_VALUE), [0])
        self.assertEqual(lengths(cyclic(5, [])), [0, 1, 2, 3, 4])
        self.assertEqual(lengths(cyclic(5, [], by_arch=3)), [0, 1, 2, 2, 3])

    def test_the_shortest_text_of_each_value_among_all_short_texts(self):
        for reader in SAMPLES:
            found = {}
            for text in texts_with(reader[0], 5):
                found.setdefault(value(reader, text), len(text))
            for number, length in enumerate(lengths(reader)):
                self.assertEqual(found.get(number, length), length)
                self.assertTrue(number in found or length > 5)

    def test_every_sample(self):
        for reader in SAMPLES + [numbered(trees([])), numbered(long_chain([])), cyclic(60, [])]:
            self.assertEqual(lengths(reader), plain_lengths(reader))

    def test_lengths_above_200_count_as_201(self):
        self.assertEqual(
            lengths(numbered(trees([]))), [0, 1, 2, 4, 6, 12, 14, 28, 30, 60, 62, 124, 126, 201, 201]
        )
        self.assertEqual(
            lengths(numbered(long_chain([]))),
            [0, 1, 2, 2, 4, 6, 12, 14, 28, 30, 60, 62, 124, 126]
            + [188, 190, 192, 194, 196, 198, 199, 200, 201, 201, 201],
        )

    def test_lengths_far_above_200(self):
        products = {(f"t{height}", f"t{height}"): f"d{height}" for height in range(25)}
        arches = {(0, 0, f"d{height}"): f"t{height + 1}" for height in range(25)}
        arches[(0, 0, "")] = "t0"
        reader = numbered(ruled(["dead"], products, arches, []))
        self.assertEqual(lengths(reader)[12:], [126] + [201] * (len(reader[3]) - 13))

    def test_the_list_is_new(self):
        lengths(DEPTH).append(3)
        self.assertEqual(lengths(DEPTH), [0, 2, 4])


class TextOf(unittest.TestCase):
    def check(self, reader, number, words):
        self.assertIsNone(fault(reader))
        self.assertEqual(numbered(reader), reader)
        self.assertEqual(text_of(reader, number), row(words))

    def test_the_empty_text(self):
        for reader in SAMPLES:
            self.assertEqual(text_of(reader, 0), [])

    def test_letters_and_arches(self):
        self.check(PARITY, 1, "l0")
        self.check(DEPTH, 1, "c0 r0")
        self.check(DEPTH, 2, "c0 c0 r0 r0")
        self.check(cyclic(5, [], by_arch=3), 4, "l0 c0 r0")
        self.check(cyclic(5, []), 4, "l0 l0 l0 l0")

    def test_the_lowest_letter_is_tried_first(self):
        mul = tuple(tuple(min(x + y, 2) for y in range(3)) for x in range(3))
        reader = ((3, 1, 1), 0, (1, 1, 1), mul, (((0, 1, 2),),), ())
        self.check(reader, 1, "l0")
        self.check(reader, 2, "l0 l0")

    def test_a_lower_letter_comes_before_a_lower_value_behind_it(self):
        # The first letters have the values 2 and 1. Their products are all 3.
        mul = tuple(tuple(max(x, y) if 0 in (x, y) else 3 for y in range(4)) for x in range(4))
        reader = ((2, 1, 1), 0, (1, 2), mul, (((3, 3, 3, 3),),), ())
        self.check(reader, 3, "l0 l0")

    def test_the_lowest_value_behind_a_letter_is_tried_first(self):
        # Only the products of the first letter and of the second or third one are 5.
        mul = [[max(x, y) if 0 in (x, y) else 4 for y in range(6)] for x in range(6)]
        mul[1][2] = mul[1][3] = mul[2][1] = 5
        reader = ((3, 1, 1), 0, (1, 2, 3), tuple(tuple(line) for line in mul), (((4,) * 6,),), ())
        self.check(reader, 5, "l0 l1")

    def test_a_letter_is_tried_before_an_arch_of_the_same_length(self):
        # The text l0 c0 r0 and the text c0 r0 l0 have the value 4.
        mul = [[max(x, y) if 0 in (x, y) else 3 for y in range(5)] for x in range(5)]
        mul[1][2] = mul[2][1] = 4
        reader = ((1, 1, 1), 0, (1,), tuple(tuple(line) for line in mul), (((2, 3, 3, 3, 3),),), ())
        reader = numbered(reader)
        found = value(reader, row("c0 r0 l0"))
        self.assertEqual(text_of(reader, found), row("l0 c0 r0"))

    def test_the_order_of_calls_returns_and_values(self):
        reader = cyclic(50, [], (1, 2, 2), by_arch=11)
        order = values(reader, 60)
        for count, words in (
            (11, "c0 r0"),
            (12, "c0 r1"),
            (13, "c1 r1"),
            (14, "l0 c1 r1"),
            (22, "c0 r0 c0 r0"),
            (23, "c0 r0 c0 r1"),
            (24, "c0 r0 c1 r1"),
            (25, "c0 r1 c1 r1"),
            (26, "c1 r1 c1 r1"),
        ):
            self.assertEqual(text_of(numbered(reader), order.index(count)), row(words))

    def test_the_lowest_call_is_tried_first(self):
        # Both the call 1 with the return 0 and the call 0 with the return 1 give 13.
        reader = numbered(cyclic(50, [], (1, 2, 2), by_arch=12))
        self.assertEqual(text_of(reader, value(reader, row("c1 r0"))), row("c0 r1"))

    def test_a_lower_call_comes_before_a_lower_return(self):
        # The call 0 with the return 2 and the call 1 with the return 0 are the same.
        reader = numbered(arch_values({(0, 2): "a", (1, 0): "a", (0, 0): "b", (0, 1): "c"}))
        self.assertEqual(text_of(reader, value(reader, row("c1 r0"))), row("c0 r2"))

    def test_the_lowest_value_inside_is_tried_first(self):
        # The letters 1, 0 have the values 1 and 2; arches around them are the same.
        arches = {(0, 0, "p"): "a", (0, 0, "q"): "a"}
        reader = numbered(ruled(["q", "p"], {}, arches, []))
        self.assertEqual(text_of(reader, value(reader, row("c0 l1 r0"))), row("c0 l0 r0"))
        reader = numbered(ruled(["p", "q"], {}, arches, []))
        self.assertEqual(text_of(reader, value(reader, row("c0 l1 r0"))), row("c0 l0 r0"))

    def test_a_lower_call_comes_before_a_shorter_arch(self):
        # Both an arch of the letter and an empty arch with the letter behind have the value z.
        reader = numbered(ruled(["p"], {("b", "p"): "z"}, {(0, 0, "p"): "z", (1, 0, ""): "b"}, []))
        self.assertEqual(text_of(reader, value(reader, row("c1 r0 l0"))), row("c0 l0 r0"))
        reader = numbered(ruled(["p"], {("b", "p"): "z"}, {(1, 0, "p"): "z", (0, 0, ""): "b"}, []))
        self.assertEqual(text_of(reader, value(reader, row("c1 l0 r0"))), row("c0 r0 l0"))

    def test_a_lower_return_comes_before_a_shorter_arch(self):
        reader = numbered(ruled(["p"], {("b", "p"): "z"}, {(0, 0, "p"): "z", (0, 1, ""): "b"}, []))
        self.assertEqual(text_of(reader, value(reader, row("c0 r1 l0"))), row("c0 l0 r0"))

    def test_what_is_inside_is_tried_before_what_is_behind(self):
        # An arch of "" with the letter 1 behind, and one of the letter 0 with nothing behind.
        reader = ruled(["p", "q"], {("a", "q"): "z"}, {(0, 0, ""): "a", (0, 0, "p"): "z"}, [])
        reader = numbered(reader)
        self.assertEqual(text_of(reader, value(reader, row("c0 l0 r0"))), row("c0 r0 l1"))

    def test_the_lowest_value_behind_an_arch_is_tried_first(self):
        products = {("a", "p"): "z", ("a", "q"): "z"}
        reader = numbered(ruled(["p", "q"], products, {(0, 0, ""): "a"}, []))
        self.assertEqual(text_of(reader, value(reader, row("c0 r0 l1"))), row("c0 r0 l0"))

    def test_a_lower_return_with_a_longer_text_does_not_count(self):
        # The text c0 c0 l0 r0 r0 has the same value and is longer.
        products = {("a", "x"): "z"}
        arches = {(0, 0, "p"): "b", (0, 1, ""): "a", (1, 0, ""): "x", (0, 0, "b"): "z"}
        reader = numbered(ruled(["p"], products, arches, []))
        number = value(reader, row("c0 r1 c1 r0"))
        self.assertEqual(text_of(reader, number), row("c0 r1 c1 r0"))

    def test_every_value_of_every_sample(self):
        for reader in SAMPLES + [numbered(trees([])), numbered(long_chain([]))]:
            least = plain_lengths(reader)
            for number, length in enumerate(least):
                if length <= 200:
                    text = text_of(reader, number)
                    self.assertEqual(text, plain_text_of(reader, least, number))
                    self.assertEqual(value(reader, text), number)
                    self.assertEqual(len(text), length)

    def test_texts_with_200_and_with_more_places(self):
        reader = numbered(long_chain([]))
        least = lengths(reader)
        for number, length in enumerate(least):
            if length == 201:
                with self.assertRaises(TextTooLong):
                    text_of(reader, number)
            else:
                self.assertEqual(len(text_of(reader, number)), length)
        self.assertEqual((least.count(200), least.count(201)), (1, 3))

    def test_the_text_is_new(self):
        for number in range(3):
            wanted = list(text_of(DEPTH, number))
            text_of(DEPTH, number).append(("letter", 0))
            self.assertEqual(text_of(DEPTH, number), wanted)


class Shortest(unittest.TestCase):
    def test_the_example_of_the_document(self):
        self.assertEqual(shortest(DEPTH), row("c0 c0 r0 r0"))

    def test_the_empty_text(self):
        self.assertEqual(shortest(PARITY), [])
        self.assertEqual(shortest(ONE_VALUE), [])

    def test_no_text(self):
        self.assertIsNone(shortest(NOTHING))
        self.assertIsNone(shortest(PARITY[:5] + ((),)))
        # Only a value that no text has is accepted.
        self.assertIsNone(shortest(UNIT_LAST[:5] + ((1,),)))

    def test_values_are_numbered_first(self):
        self.assertEqual(shortest(UNIT_LAST), row("l0"))
        self.assertEqual(shortest(UNIT_LAST[:5] + ((1, 2),)), [])

    def test_the_least_length_counts_before_the_number(self):
        # The product bb comes before the arch c in the list, and its text is longer.
        products = {("p", "p"): "pp", ("b", "b"): "bb"}
        reader = ruled(["p"], products, {(0, 0, "p"): "b", (0, 0, "pp"): "c"}, ["bb", "c"])
        found = numbered(reader)
        self.assertEqual(found[5][0], value(found, row("c0 l0 r0 c0 l0 r0")))
        self.assertEqual(shortest(reader), row("c0 l0 l0 r0"))

    def test_the_lowest_of_several_values_of_the_same_least_length_counts(self):
        mul = tuple(tuple(max(x, y) if 0 in (x, y) else 4 for y in range(5)) for x in range(5))
        # The letters have the values 3, 1, 2, so the numbers 1, 2, 3.
        reader = ((3, 1, 1), 0, (3, 1, 2), mul, (((4,) * 5,),), ())
        self.assertEqual(shortest(reader[:5] + ((1, 2),)), row("l1"))
        self.assertEqual(shortest(reader[:5] + ((2, 3),)), row("l0"))
        self.assertEqual(shortest(reader[:5] + ((1, 2, 3),)), row("l0"))
        self.assertEqual(shortest(reader[:5] + ((2,),)), row("l2"))
        # An arch around nothing has a lower number than two letters have here, or a higher one.
        self.assertEqual(shortest(cyclic(9, [2, 5], by_arch=5)), row("l0 l0"))

    def test_each_choice_of_accepted_values(self):
        for reader in (FLIPS, RESETS, DEPTH, UNIT_LAST):
            for bits in product((False, True), repeat=len(reader[3])):
                accepted = tuple(number for number, bit in enumerate(bits) if bit)
                chosen = numbered(reader[:5] + (accepted,))
                least = plain_lengths(chosen)
                if chosen[5]:
                    first = min((least[number], number) for number in chosen[5])[1]
                    wanted = plain_text_of(chosen, least, first)
                else:
                    wanted = None
                self.assertEqual(shortest(reader[:5] + (accepted,)), wanted)

    def test_no_shorter_text_is_accepted(self):
        for reader in ALL:
            found = shortest(reader)
            accepted = [text for text in texts_with(reader[0], 4) if accepts(reader, text)]
            if accepted:
                self.assertEqual(len(found), len(accepted[0]))
                self.assertIn(found, accepted)

    def test_texts_with_200_and_with_more_places(self):
        self.assertEqual(len(shortest(long_chain(["odd"]))), 199)
        self.assertEqual(len(shortest(long_chain(["a6"]))), 200)
        self.assertEqual(len(shortest(long_chain(["a6", "edge"]))), 200)
        self.assertIs(accepts(long_chain(["a6"]), shortest(long_chain(["a6"]))), True)
        for name in ("edge", "a7", "a8"):
            with self.assertRaises(TextTooLong):
                shortest(long_chain([name]))
        for name in ("d5", "t6"):
            with self.assertRaises(TextTooLong):
                shortest(trees([name]))
        with self.assertRaises(TextTooLong):
            shortest(trees(["d5", "t6"]))


class Together(unittest.TestCase):
    def check(self, kind, first, second):
        pairs = plain_joint(kind, first, second, 200)
        least = plain_lengths(pairs)
        if not pairs[5]:
            wanted = None
        else:
            best = min((least[number], number) for number in pairs[5])[1]
            wanted = plain_text_of(pairs, least, best)
        self.assertEqual(together(kind, first, second), wanted)
        if kind == "one":
            self.assertEqual(parting(first, second), wanted)

    def test_the_four_kinds(self):
        groups = ((PARITY, DEPTH, UNIT_LAST, cyclic(3, [2], by_arch=1)), (FLIPS, TURNED), (ONE_VALUE, NOTHING))
        for readers in groups:
            for first, second in product(readers, repeat=2):
                for kind in KINDS:
                    self.check(kind, first, second)

    def test_the_text_is_a_shortest_one(self):
        for first, second in product((PARITY, DEPTH, UNIT_LAST), repeat=2):
            for kind in KINDS:
                fitting = [
                    text for text in texts_with((1, 1, 1), 6)
                    if JOINED[kind](accepts(first, text), accepts(second, text))
                ]
                found = together(kind, first, second)
                if found is None:
                    self.assertEqual(fitting, [])
                else:
                    self.assertIn(found, fitting)
                    self.assertEqual(len(found), len(fitting[0]))

    def test_by_hand(self):
        self.assertEqual(together("both", PARITY, DEPTH), row("c0 c0 r0 r0"))
        self.assertEqual(together("either", PARITY, DEPTH), [])
        self.assertEqual(together("one", PARITY, DEPTH), [])
        self.assertEqual(together("but_not", PARITY, DEPTH), [])
        self.assertEqual(together("but_not", DEPTH, PARITY), row("l0 c0 c0 r0 r0"))

    def test_no_text(self):
        self.assertIsNone(together("both", ONE_VALUE, NOTHING))
        self.assertIsNone(together("but_not", NOTHING, ONE_VALUE))
        self.assertIsNone(together("but_not", DEPTH, DEPTH))
        self.assertIsNone(together("either", NOTHING, NOTHING))

    def test_more_than_60_pairs(self):
        # The numbers of letters modulo 13 and modulo 15 make 195 pairs.
        first, second = cyclic(13, [7]), cyclic(15, [2])
        both = [many for many in range(195) if many % 13 == 7 and many % 15 == 2]
        self.assertEqual(together("both", first, second), row("l0") * both[0])
        self.assertEqual(together("either", first, second), row("l0") * 2)
        self.assertEqual(together("one", first, second), row("l0") * 2)
        self.assertEqual(together("but_not", first, second), row("l0") * 7)
        self.assertEqual(together("both", cyclic(13, [12]), cyclic(15, [14])), row("l0") * 194)

    def test_200_pairs(self):
        self.assertEqual(together("both", cyclic(8, [7]), cyclic(25, [24])), row("l0") * 199)
        self.assertEqual(parting(cyclic(8, [7]), cyclic(25, [24])), row("l0") * 7)

    def test_more_than_200_pairs(self):
        for kind in KINDS:
            # With arches there are 8 * 25 + 1 pairs.
            with self.assertRaises(TooManyValues):
                together(kind, cyclic_flat(8, [7]), cyclic_flat(25, [24]))
            with self.assertRaises(TooManyValues):
                together(kind, cyclic(60, [7]), cyclic(59, [24]))
        with self.assertRaises(TooManyValues):
            parting(cyclic_flat(8, [7]), cyclic_flat(25, [24]))
        with self.assertRaises(TooManyValues):
            parting(cyclic(14, []), cyclic(15, []))

    def test_parting_readers_of_the_same_texts(self):
        for reader in ALL:
            self.assertIsNone(parting(reader, reader))
            self.assertIsNone(parting(reader, numbered(reader)))
        # Even numbers of letters, by two values and by four.
        self.assertIsNone(parting(PARITY, cyclic(4, [0, 2])))
        self.assertIsNone(parting(cyclic(10, []), NO_TEXT))

    def test_parting_readers_of_different_texts(self):
        self.assertEqual(parting(PARITY, cyclic(4, [0])), row("l0 l0"))
        self.assertEqual(parting(PARITY, cyclic(6, [0, 2])), row("l0") * 4)
        self.assertEqual(parting(cyclic(9, [8]), NO_TEXT), row("l0") * 8)
        self.assertEqual(parting(NO_TEXT, DEPTH), row("c0 c0 r0 r0"))

    def test_different_labels(self):
        for labels in ((2, 1, 1), (1, 2, 1), (1, 1, 2)):
            other = cyclic(2, [0], labels)
            for kind in KINDS:
                for first, second in ((PARITY, other), (other, PARITY)):
                    with self.assertRaises(DifferentLabels):
                        together(kind, first, second)
                    with self.assertRaises(DifferentLabels):
                        parting(first, second)

    def test_different_labels_come_before_too_many_values(self):
        with self.assertRaises(DifferentLabels):
            together("both", cyclic(60, [1]), cyclic(59, [1], (1, 1, 2)))

    def test_too_many_values_come_before_a_text_that_is_too_long(self):
        # The shortest text of these has 14 * 15 - 1 places.
        with self.assertRaises(TooManyValues):
            together("both", cyclic(14, [13]), cyclic(15, [14]))

    def test_a_text_that_is_too_long(self):
        for kind in ("both", "either"):
            with self.assertRaises(TextTooLong):
                together(kind, trees(["d5"]), trees(["d5", "t6"]))
        with self.assertRaises(TextTooLong):
            parting(trees(["d5"]), trees(["t6"]))
        with self.assertRaises(TextTooLong):
            together("but_not", trees(["t6"]), NO_TEXT)
        self.assertIsNone(together("both", trees(["d5"]), trees(["t6"])))
        self.assertEqual(len(together("both", long_chain(["a6"]), PARITY)), 200)
        with self.assertRaises(TextTooLong):
            together("both", long_chain(["edge"]), cyclic(2, [1]))


# This reader has the labels (1, 1, 1) and accepts no text.
NO_TEXT = cyclic(3, [])


if __name__ == "__main__":
    unittest.main()
