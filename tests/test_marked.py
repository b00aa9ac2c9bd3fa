import unittest
from itertools import product

from archway.marked import marked, marked_labels, unmarked, width
from archway.texts import fault_of
from tests.plain import texts_with
from tests.plain_parts import plain_marked
from tests.plain_sentences import plain_subsets
from tests.rows import nested, row


class Widths(unittest.TestCase):
    def test_widths(self):
        self.assertEqual([width(sets) for sets in range(4)], [1, 2, 4, 8])

    def test_labels(self):
        self.assertEqual(marked_labels((1, 2, 3), 0), (1, 2, 3))
        self.assertEqual(marked_labels((1, 2, 3), 1), (2, 4, 6))
        self.assertEqual(marked_labels((1, 2, 3), 2), (4, 8, 12))
        self.assertEqual(marked_labels((1, 2, 3), 3), (8, 16, 24))
        self.assertEqual(marked_labels((3, 3, 3), 3), (24, 24, 24))
        self.assertIsInstance(marked_labels((2, 1, 1), 2), tuple)


class Marked(unittest.TestCase):
    def check(self, text, sets, wanted):
        given, several = list(text), [list(places) for places in sets]
        found = marked(given, several)
        self.assertEqual(found, wanted)
        self.assertIsInstance(found, list)
        self.assertIsNot(found, given)
        self.assertEqual((given, several), (text, sets))
        again = unmarked(found, len(sets))
        self.assertEqual(again, (text, sets))
        self.assertIsInstance(again, tuple)
        self.assertEqual(found, wanted)

    def test_the_example(self):
        self.check(row("l1 c0 r2"), [[0, 1], [1]], row("l5 c3 r8"))

    def test_without_sets(self):
        self.check([], [], [])
        self.check(row("l2 c0 r1"), [], row("l2 c0 r1"))

    def test_one_set(self):
        text = row("l1 c2 l0 r0")
        self.check(text, [[]], row("l2 c4 l0 r0"))
        self.check(text, [[0]], row("l3 c4 l0 r0"))
        self.check(text, [[1]], row("l2 c5 l0 r0"))
        self.check(text, [[2, 3]], row("l2 c4 l1 r1"))
        self.check(text, [[0, 1, 2, 3]], row("l3 c5 l1 r1"))
        self.check([], [[]], [])

    def test_two_sets(self):
        text = row("l0 l1 c2 r2")
        self.check(text, [[], []], row("l0 l4 c8 r8"))
        self.check(text, [[0], []], row("l1 l4 c8 r8"))
        self.check(text, [[], [0]], row("l2 l4 c8 r8"))
        self.check(text, [[0, 2], [2, 3]], row("l1 l4 c11 r10"))
        self.check([], [[], []], [])

    def test_three_sets(self):
        text = row("l2 c2 r2")
        self.check(text, [[], [], []], row("l16 c16 r16"))
        self.check(text, [[], [], [1]], row("l16 c20 r16"))
        self.check(text, [[0], [0], [0]], row("l23 c16 r16"))
        self.check(text, [[0, 1, 2], [1, 2], [2]], row("l17 c19 r23"))
        self.check(text, [[2], [0, 2], [0, 1, 2]], row("l22 c20 r23"))

    def test_all_short_texts_and_sets(self):
        for text in texts_with((2, 1, 1), 2) + texts_with((1, 2, 3), 2):
            for count in range(4):
                for sets in product(plain_subsets(text), repeat=count):
                    self.check(text, list(sets), plain_marked(text, sets))

    def test_long_texts(self):
        text = nested(100) + row("l2 " * 300)
        sets = [list(range(0, 500, 3)), [], [0, 99, 499]]
        self.check(text, sets, plain_marked(text, sets))
        self.assertIsNone(fault_of(marked(text, sets)))

    def test_what_is_returned_is_new(self):
        text, sets = row("l0 l0"), [[0]]
        found = marked(text, sets)
        plain, places = unmarked(found, 1)
        found.append(("letter", 0))
        plain.append(("letter", 1))
        places[0].append(1)
        places.append([])
        self.assertEqual((text, sets), (row("l0 l0"), [[0]]))
        self.assertEqual(unmarked(marked(text, sets), 1), (text, sets))
        none = marked(text, [])
        none.append(("letter", 0))
        self.assertEqual(text, row("l0 l0"))
        self.assertIsNot(unmarked(text, 0)[0], text)


if __name__ == "__main__":
    unittest.main()
