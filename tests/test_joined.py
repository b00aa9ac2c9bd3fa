import unittest
from itertools import product

from archway.errors import DifferentLabels, TooManyValues
from archway.joined import denied, joint
from archway.readers import accepts, fault
from archway.values import numbered
from tests.plain import JOINED, plain_joint, texts_with
from tests.samples import (
    ALL, DEPTH, FLIPS, NOTHING, ONE_VALUE, PARITY, TURNS, UNIT_LAST,
    cyclic, cyclic_flat, maps, trees, turned,
)

KINDS = ("both", "either", "one", "but_not")
TURNED = maps(2, [(1, 0), (1, 1)], turned, lambda one: one[1] == 1)
THREE_VALUES = cyclic(3, [0, 2], by_arch=1)
ROUND = cyclic(4, [1], (2, 2, 2), by_arch=1)

# Readers with the same labels.
PAIRS = [
    (first, second)
    for readers in ((PARITY, DEPTH, UNIT_LAST, THREE_VALUES), (FLIPS, TURNED, ROUND), (ONE_VALUE, NOTHING))
    for first, second in product(readers, repeat=2)
]


class Denied(unittest.TestCase):
    def test_it_accepts_the_other_texts(self):
        for reader in ALL:
            found = denied(reader)
            self.assertIsNone(fault(found))
            for text in texts_with(reader[0], 4):
                self.assertIs(accepts(found, text), not accepts(reader, text))

    def test_the_values_stay_as_they_are(self):
        for reader in ALL:
            found = denied(reader)
            self.assertIsInstance(found, tuple)
            self.assertEqual(found[:5], reader[:5])
            others = [v for v in range(len(reader[3])) if v not in reader[5]]
            self.assertEqual(found[5], tuple(others))

    def test_values_that_no_text_has_are_accepted_as_well(self):
        self.assertEqual(denied(UNIT_LAST)[5], (1, 2))

    def test_all_and_none(self):
        self.assertEqual(denied(ONE_VALUE)[5], ())
        self.assertEqual(denied(NOTHING)[5], (0,))

    def test_denied_twice(self):
        for reader in ALL + (trees(["t2", "d1"]), cyclic(60, [])):
            self.assertEqual(denied(denied(reader)), reader)


class Joint(unittest.TestCase):
    def test_the_four_kinds_on_all_short_texts(self):
        for first, second in PAIRS:
            texts = texts_with(first[0], 4)
            for kind in KINDS:
                found = joint(kind, first, second)
                self.assertIsNone(fault(found))
                for text in texts:
                    wanted = JOINED[kind](accepts(first, text), accepts(second, text))
                    self.assertIs(accepts(found, text), wanted, (kind, first, second, text))

    def test_the_pairs_are_numbered(self):
        for first, second in PAIRS:
            for kind in KINDS:
                found = joint(kind, first, second)
                self.assertEqual(found, plain_joint(kind, first, second))
                self.assertEqual(numbered(found), found)

    def test_by_hand(self):
        # The pairs are (0, 0), (1, 0), (0, 1), (1, 1), (0, 2), (1, 2): the number of letters,
        # even or odd, and the depth.
        found = joint("but_not", PARITY, DEPTH)
        self.assertEqual(found[:3], ((1, 1, 1), 0, (1,)))
        self.assertEqual(found[3][0], (0, 1, 2, 3, 4, 5))
        self.assertEqual(found[3][1], (1, 0, 3, 2, 5, 4))
        self.assertEqual(found[3][3], (3, 2, 3, 2, 5, 4))
        self.assertEqual(found[4], (((2, 3, 4, 5, 4, 5),),))
        self.assertEqual(found[5], (0, 2))
        self.assertEqual(joint("both", PARITY, DEPTH)[5], (4,))
        self.assertEqual(joint("either", PARITY, DEPTH)[5], (0, 2, 4, 5))
        self.assertEqual(joint("one", PARITY, DEPTH)[5], (0, 2, 5))

    def test_which_reader_is_the_first_one(self):
        self.assertEqual(joint("but_not", DEPTH, PARITY)[5], (5,))
        for first, second in PAIRS:
            other = joint("but_not", second, first)
            for text in texts_with(first[0], 3):
                wanted = accepts(second, text) and not accepts(first, text)
                self.assertIs(accepts(other, text), wanted)

    def test_only_pairs_that_texts_have_are_values(self):
        self.assertEqual(len(joint("one", PARITY, PARITY)[3]), 2)
        self.assertEqual(joint("one", PARITY, PARITY)[5], ())
        self.assertEqual(len(joint("both", UNIT_LAST, UNIT_LAST)[3]), 2)
        self.assertEqual(joint("both", TURNS, TURNS), numbered(TURNS))
        self.assertEqual(joint("either", cyclic(60, [7]), cyclic(60, [7])), cyclic(60, [7]))
        self.assertEqual(len(joint("one", cyclic(60, [7]), cyclic(30, [7]))[3]), 60)


class Errors(unittest.TestCase):
    def test_different_labels(self):
        for labels in ((2, 1, 1), (1, 2, 1), (1, 1, 2), (2, 2, 2)):
            for kind in KINDS:
                with self.assertRaises(DifferentLabels):
                    joint(kind, PARITY, cyclic(2, [0], labels))
                with self.assertRaises(DifferentLabels):
                    joint(kind, cyclic(2, [0], labels), PARITY)

    def test_different_labels_before_too_many_values(self):
        for kind in KINDS:
            with self.assertRaises(DifferentLabels):
                joint(kind, cyclic(59, [0]), cyclic(60, [0], (1, 1, 2)))

    def test_60_pairs(self):
        for kind in KINDS:
            found = joint(kind, cyclic(4, [1]), cyclic(15, [2]))
            self.assertEqual(found, plain_joint(kind, cyclic(4, [1]), cyclic(15, [2])))
            self.assertEqual(len(found[3]), 60)

    def test_more_than_60_pairs(self):
        for kind in KINDS:
            # With arches there are 4 * 15 + 1 pairs.
            with self.assertRaises(TooManyValues):
                joint(kind, cyclic_flat(4, [1]), cyclic_flat(15, [2]))
            with self.assertRaises(TooManyValues):
                joint(kind, cyclic(7, [1]), cyclic(9, [2]))
            with self.assertRaises(TooManyValues):
                joint(kind, cyclic(60, [1]), cyclic(59, [2]))


if __name__ == "__main__":
    unittest.main()
