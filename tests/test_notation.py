import unittest

from archway.errors import InvalidWord, TextTooLong, UnbalancedText
from archway.notation import format_text, parse_text
from tests.rows import nested, row, short_texts


class Written(unittest.TestCase):
    def check(self, text, written):
        before = list(text)
        self.assertEqual(format_text(text), written)
        self.assertEqual(text, before)
        self.assertEqual(parse_text((3, 3, 3), written), text)

    def test_the_empty_text(self):
        self.check([], "")

    def test_one_letter(self):
        self.check([("letter", 0)], "l0")
        self.check([("letter", 2)], "l2")

    def test_each_kind(self):
        self.check([("letter", 1), ("call", 0), ("return", 2)], "l1 c0 r2")

    def test_a_nested_text(self):
        self.check(
            [("call", 2), ("call", 1), ("letter", 0), ("return", 1), ("return", 0), ("letter", 2)],
            "c2 c1 l0 r1 r0 l2",
        )

    def test_every_label(self):
        for label in range(3):
            for back in range(3):
                for letter in range(3):
                    text = [("call", label), ("letter", letter), ("return", back)]
                    self.check(text, f"c{label} l{letter} r{back}")

    def test_every_short_text_there_and_back(self):
        for text in short_texts(6):
            written = " ".join([kind[0] + str(label) for kind, label in text])
            self.check(text, written)

    def test_200_places(self):
        self.check([("letter", 1)] * 200, " ".join(["l1"] * 200))
        self.check(nested(100), " ".join(["c0"] * 100 + ["r0"] * 100))

    def test_the_returned_list_is_new(self):
        for written in ("", "l0"):
            wanted = list(parse_text((1, 1, 1), written))
            parse_text((1, 1, 1), written).append(("letter", 0))
            self.assertEqual(parse_text((1, 1, 1), written), wanted)


class Words(unittest.TestCase):
    def refused(self, labels, written, number):
        with self.assertRaises(InvalidWord) as caught:
            parse_text(labels, written)
        self.assertEqual(caught.exception.number, number, repr(written))

    def test_empty_words(self):
        self.refused((1, 1, 1), " ", 0)
        self.refused((1, 1, 1), "  ", 0)
        self.refused((1, 1, 1), " l0", 0)
        self.refused((1, 1, 1), "l0 ", 1)
        self.refused((1, 1, 1), "l0  l0", 1)
        self.refused((1, 1, 1), "c0 r0   l0", 2)
        self.refused((1, 1, 1), "c0 l0 r0 ", 3)

    def test_labels_of_each_kind(self):
        for labels in ((1, 2, 3), (2, 3, 1), (3, 1, 2), (3, 3, 3), (1, 1, 1)):
            letters, calls, returns = labels
            last = f"l{letters - 1} c{calls - 1} r{returns - 1}"
            self.assertEqual(parse_text(labels, last), row(last))
            self.refused(labels, f"l0 c0 r0 l{letters}", 3)
            self.refused(labels, f"l0 c{calls} r0 l0", 1)
            self.refused(labels, f"l0 c0 r{returns} l0", 2)

    def test_labels_beyond_all_labels(self):
        for label in range(3, 10):
            for sign in "lcr":
                self.refused((3, 3, 3), f"l0 {sign}{label}", 1)

    def test_other_signs(self):
        for word in ("x0", "a0", "L0", "C0", "R0", "00", "(0", "-0", "l\t", "\u01c90"):
            self.refused((3, 3, 3), "l0 " + word, 1)

    def test_words_that_are_too_short(self):
        for word in ("l", "c", "r", "0", "2"):
            self.refused((3, 3, 3), "l0 " + word, 1)
        self.refused((3, 3, 3), "l 0", 0)

    def test_further_signs_in_a_word(self):
        for word in ("l00", "l01", "l10", "l1x", "ll0", "0l", "l-0", "l-1", "l+1", "cr", "lc0", "l0l0"):
            self.refused((3, 3, 3), "l0 " + word, 1)

    def test_words_in_full(self):
        for word in ("letter", "call", "return", "letter0"):
            self.refused((3, 3, 3), word, 0)

    def test_only_the_ten_decimal_digits_are_digits(self):
        # Superscript two, and the digits one of two other scripts.
        for digit in ("\u00b2", "\u0661", "\uff11", "a", "_", "-", "."):
            self.refused((3, 3, 3), "l0 l" + digit, 1)

    def test_only_a_space_separates_words(self):
        self.refused((3, 3, 3), "l0\tl0", 0)
        self.refused((3, 3, 3), "l0\nl0", 0)
        self.refused((3, 3, 3), "l0 l0\n", 1)
        self.refused((3, 3, 3), "\n", 0)
        self.refused((3, 3, 3), "l0,l0", 0)
        self.refused((3, 3, 3), "l0\u00a0l0", 0)

    def test_the_first_such_word_counts(self):
        self.refused((1, 1, 1), "l0 l1 x l0 ", 1)
        self.refused((1, 1, 1), "l0 l0  l1", 2)


class Order(unittest.TestCase):
    def refused(self, error, field, number, written):
        with self.assertRaises(error) as caught:
            parse_text((1, 1, 1), written)
        self.assertEqual(getattr(caught.exception, field), number)

    def too_long(self, written):
        with self.assertRaises(TextTooLong):
            parse_text((1, 1, 1), written)

    def test_texts_that_are_not_balanced(self):
        self.refused(UnbalancedText, "place", 0, "r0")
        self.refused(UnbalancedText, "place", 2, "c0 r0 r0 c0")
        self.refused(UnbalancedText, "place", 0, "c0")
        self.refused(UnbalancedText, "place", 2, "c0 r0 c0 c0 r0")

    def test_texts_that_are_too_long(self):
        self.too_long(" ".join(["l0"] * 201))
        self.too_long(" ".join(["c0", "r0"] * 101))
        self.too_long(" ".join(["l0"] * 250))

    def test_words_are_checked_before_the_balance(self):
        self.refused(InvalidWord, "number", 2, "r0 r0 l1")
        self.refused(InvalidWord, "number", 1, "r0 ")
        self.refused(InvalidWord, "number", 0, "c1")

    def test_words_are_checked_before_the_length(self):
        self.refused(InvalidWord, "number", 200, " ".join(["l0"] * 200 + ["l1"]))
        self.refused(InvalidWord, "number", 230, " ".join(["l0"] * 230 + ["x"]))

    def test_the_balance_is_checked_before_the_length(self):
        self.refused(UnbalancedText, "place", 201, " ".join(["l0"] * 201 + ["r0"]))
        self.refused(UnbalancedText, "place", 0, " ".join(["c0"] * 201))

    def test_all_faults_at_once(self):
        self.refused(InvalidWord, "number", 210, " ".join(["r0"] + ["l0"] * 209 + ["", "c"]))


if __name__ == "__main__":
    unittest.main()
