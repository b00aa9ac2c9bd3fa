import unittest

from archway.parts import is_true_at, uses
from tests.plain_parts import plain_truth, plain_uses
from tests.plain_sentences import PLACE_NAMES, plain_depth, rich_sentences, some_sentences

END = ("nothing",)
KINDS = ("letter", "call", "return")


class Uses(unittest.TestCase):
    def check(self, sentence, given, wanted):
        self.assertEqual(plain_uses(sentence, given), wanted)
        found = uses(sentence, given)
        self.assertEqual(found, wanted)
        self.assertIsInstance(found, list)
        for pair in found:
            self.assertIsInstance(pair, tuple)

    def test_one_line(self):
        for given in range(4):
            self.check((END,), given, [(0, given)])
            self.check((("set", 0), ("all", 0)), given, [(1, given)])
            self.check((("set", 0), ("letter", 0), ("next", 1, 0)), given, [(2, given)])

    def test_parts(self):
        self.check((END, ("denied", 0)), 0, [(0, 0), (1, 0)])
        self.check((END, ("denied", 0), ("both", 1, 0)), 2, [(0, 2), (1, 2), (2, 2)])
        self.check((END, ("there", 0)), 0, [(0, 1), (1, 0)])
        self.check((END, ("there", 0)), 2, [(0, 3), (1, 2)])

    def test_lines_that_are_not_used(self):
        self.check((END, ("there", 0), ("set", 1), ("all", 2)), 0, [(3, 0)])
        self.check((END, END, ("denied", 0), ("denied", 1)), 1, [(1, 1), (3, 1)])
        self.check((END, ("there", 0), ("there", 1), ("there", 2), ("denied", 0)), 0, [(0, 0), (4, 0)])

    def test_numbers_that_are_not_line_numbers(self):
        # The numbers of sets and labels name no lines.
        self.check((END, ("set", 0), ("all", 1)), 0, [(2, 0)])
        self.check((END, END, ("letter", 1), ("call", 0), ("next", 2, 3)), 0, [(4, 0)])

    def test_lines_inside_different_numbers_of_there(self):
        self.check((END, ("there", 0), ("both", 0, 1)), 0, [(0, 0), (0, 1), (1, 0), (2, 0)])
        self.check(
            (END, ("there", 0), ("there", 1), ("both", 0, 2), ("both", 1, 3)), 1,
            [(0, 1), (0, 2), (0, 3), (1, 1), (1, 2), (2, 1), (3, 1), (4, 1)],
        )
        self.check(
            (END, ("denied", 0), ("there", 1), ("there", 0), ("there", 2), ("both", 4, 3)), 0,
            [(0, 1), (0, 2), (1, 2), (2, 1), (3, 0), (4, 0), (5, 0)],
        )

    def test_each_pair_once(self):
        self.check((END, ("both", 0, 0), ("both", 1, 1), ("both", 2, 0)), 0, [(0, 0), (1, 0), (2, 0), (3, 0)])
        doubled = (END,) + tuple(("both", number, number) for number in range(59))
        self.check(doubled, 2, [(number, 2) for number in range(60)])

    def test_many_sentences(self):
        for sentence in some_sentences((2, 1, 2), 200, seed=1, most_depth=3) + rich_sentences((1, 1, 1), 200, 2):
            for given in range(4 - plain_depth(sentence)):
                self.check(sentence, given, plain_uses(sentence, given))


class IsTrueAt(unittest.TestCase):
    def check(self, sentence, place, sets, wanted):
        """Check the last line, which is about one place."""
        kind, label = place
        line = len(sentence) - 1
        self.assertIs(plain_truth(sentence, line, kind, label, sets), wanted)
        self.assertIs(is_true_at(sentence, line, kind, label, sets), wanted, (sentence, place, sets))
        # The lines behind it do not matter.
        self.assertIs(is_true_at(sentence + (("all", line), END), line, kind, label, sets), wanted)

    def test_kinds_and_labels_without_sets(self):
        for kind in KINDS:
            for other in KINDS:
                for a in range(3):
                    for b in range(3):
                        self.check(((kind, a),), (other, b), 0, (kind, a) == (other, b))

    def test_labels_with_codes(self):
        for sets in range(4):
            wide = 2 ** sets
            for kind in KINDS:
                for a in range(3):
                    for label in range(3 * wide):
                        self.check(((kind, a),), (kind, label), sets, a == label // wide)
        self.check((("letter", 1),), ("letter", 1), 1, False)
        self.check((("letter", 0),), ("letter", 1), 1, True)
        self.check((("letter", 1),), ("call", 2), 1, False)
        self.check((("return", 2),), ("return", 23), 3, True)

    def test_sets(self):
        for kind in KINDS:
            self.check((("set", 0),), (kind, 1), 1, True)
            self.check((("set", 0),), (kind, 2), 1, False)
            self.check((("set", 0),), (kind, 3), 1, True)
            self.check((("set", 0),), (kind, 6), 2, False)
            self.check((("set", 1),), (kind, 6), 2, True)
            self.check((("set", 1),), (kind, 5), 2, False)
            self.check((("set", 1),), (kind, 21), 3, False)
            self.check((("set", 2),), (kind, 21), 3, True)
            self.check((("set", 2),), (kind, 19), 3, False)

    def test_sets_that_are_not_there(self):
        # Labels have no such codes: the bits of a label itself are not sets.
        for number in range(3):
            for sets in range(number + 1):
                for label in range(3 * 2 ** sets):
                    self.check((("set", number),), ("letter", label), sets, False)
                    self.check((("set", number), ("not", 0)), ("call", label), sets, True)

    def test_not_and_and(self):
        lines = (("set", 0), ("letter", 1))
        for label in range(4):
            inside, one = label % 2 == 1, label // 2 == 1
            self.check(lines + (("not", 0),), ("letter", label), 1, not inside)
            self.check(lines + (("not", 1),), ("letter", label), 1, not one)
            self.check(lines + (("and", 0, 1),), ("letter", label), 1, inside and one)
            self.check(lines + (("and", 1, 0),), ("letter", label), 1, inside and one)
            self.check(lines + (("and", 0, 0),), ("letter", label), 1, inside)
            self.check(lines + (("not", 1), ("and", 0, 2), ("not", 3)), ("letter", label), 1, one or not inside)
            self.check(lines + (("not", 1), ("and", 0, 2), ("not", 3)), ("call", label), 1, not inside)

    def test_lines_about_a_text_ahead(self):
        sentence = (("letter", 0), ("all", 0), ("first", 0), ("denied", 1), ("not", 0), ("and", 4, 4))
        self.check(sentence, ("letter", 0), 0, False)
        self.check(sentence, ("letter", 1), 0, True)

    def test_lines_that_are_used_very_often(self):
        sentence = (("set", 2),) + tuple(("and", number, number) for number in range(58))
        self.assertIs(is_true_at(sentence, 58, "letter", 4, 3), True)
        self.assertIs(is_true_at(sentence, 58, "letter", 11, 3), False)

    def test_many_sentences(self):
        for sentence in some_sentences((2, 1, 3), 100, seed=6):
            for line in [at for at, (name, *_) in enumerate(sentence) if name in PLACE_NAMES]:
                for sets in (0, 1, 3):
                    for label in range(0, 3 * 2 ** sets, 1 + sets):
                        for kind in KINDS:
                            wanted = plain_truth(sentence, line, kind, label, sets)
                            self.assertIs(is_true_at(sentence, line, kind, label, sets), wanted)


if __name__ == "__main__":
    unittest.main()
