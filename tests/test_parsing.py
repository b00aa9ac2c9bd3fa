import unittest
from random import Random

from archway.errors import InvalidWord, SentenceTooLarge
from archway.meaning import depth_of, is_valid, size_of
from archway.parsing import read_sentence
from tests.plain_sentences import LANGUAGE, PlainReading, some_written

LABELS = (2, 1, 3)


class Reading(unittest.TestCase):
    def check(self, written, *lines, names=("x", "y")):
        given = list(names)
        self.assertEqual(read_sentence(LABELS, given, written), lines)
        self.assertEqual(given, list(names))
        self.assertIs(is_valid(LABELS, lines), True)

    def refused(self, written, number, names=("x", "y"), labels=LABELS):
        given = list(names)
        with self.assertRaises(InvalidWord) as caught:
            read_sentence(labels, given, written)
        self.assertEqual(caught.exception.number, number, written)
        self.assertEqual(given, list(names))

    def too_large(self, written, names=("x", "y")):
        with self.assertRaises(SentenceTooLarge):
            read_sentence(LABELS, list(names), written)


class Statements(Reading):
    def test_empty(self):
        self.check("empty", ("nothing",))

    def test_about_places(self):
        for name in ("all", "first", "last"):
            self.check(f"{name} in x", ("set", 0), (name, 0))
            self.check(f"{name} letter 1", ("letter", 1), (name, 0))
        for name in ("next", "arch"):
            self.check(f"{name} in y letter 0", ("set", 1), ("letter", 0), (name, 0, 1))
            self.check(f"{name} in x in x", ("set", 0), ("set", 0), (name, 0, 1))
        self.check("any in y", ("set", 1), ("not", 0), ("all", 1), ("denied", 2))

    def test_not(self):
        self.check("not empty", ("nothing",), ("denied", 0))
        self.check("not not all in x", ("set", 0), ("all", 0), ("denied", 1), ("denied", 2))

    def test_and(self):
        self.check("( empty and all in x )", ("nothing",), ("set", 0), ("all", 1), ("both", 0, 2))

    def test_or(self):
        self.check(
            "( empty or all in x )",
            ("nothing",), ("denied", 0), ("set", 0), ("all", 2), ("denied", 3), ("both", 1, 4), ("denied", 5),
        )

    def test_implies(self):
        self.check(
            "( empty implies all in x )",
            ("nothing",), ("set", 0), ("all", 1), ("denied", 2), ("both", 0, 3), ("denied", 4),
        )

    def test_some(self):
        self.check("some z all in z", ("set", 2), ("all", 0), ("there", 1))
        self.check("some z empty", ("nothing",), ("there", 0))
        self.check("some a all in a", ("set", 0), ("all", 0), ("there", 1), names=())

    def test_each_part_is_written_each_time(self):
        self.check(
            "( ( empty and empty ) and ( empty and empty ) )",
            ("nothing",), ("nothing",), ("both", 0, 1), ("nothing",), ("nothing",), ("both", 3, 4), ("both", 2, 5),
        )

    def test_forms_in_one_another(self):
        self.check(
            "( not ( empty or first in x ) implies some z ( next in z in y and any in z ) )",
            ("nothing",), ("denied", 0), ("set", 0), ("first", 2), ("denied", 3), ("both", 1, 4), ("denied", 5),
            ("denied", 6),
            ("set", 2), ("set", 1), ("next", 8, 9),
            ("set", 2), ("not", 11), ("all", 12), ("denied", 13),
            ("both", 10, 14), ("there", 15),
            ("denied", 16), ("both", 7, 17), ("denied", 18),
        )
        self.check(
            "( ( empty implies empty ) or ( empty implies empty ) )",
            ("nothing",), ("nothing",), ("denied", 1), ("both", 0, 2), ("denied", 3), ("denied", 4),
            ("nothing",), ("nothing",), ("denied", 7), ("both", 6, 8), ("denied", 9), ("denied", 10),
            ("both", 5, 11), ("denied", 12),
        )


class Places(Reading):
    def test_labels(self):
        self.check("all letter 0", ("letter", 0), ("all", 0))
        self.check("all letter 1", ("letter", 1), ("all", 0))
        self.check("all call 0", ("call", 0), ("all", 0))
        self.check("all return 2", ("return", 2), ("all", 0))

    def test_not(self):
        self.check("all not in x", ("set", 0), ("not", 0), ("all", 1))
        self.check("all not not call 0", ("call", 0), ("not", 0), ("not", 1), ("all", 2))

    def test_and(self):
        self.check("all ( in x and in y )", ("set", 0), ("set", 1), ("and", 0, 1), ("all", 2))

    def test_or(self):
        self.check(
            "all ( in x or in y )",
            ("set", 0), ("not", 0), ("set", 1), ("not", 2), ("and", 1, 3), ("not", 4), ("all", 5),
        )

    def test_forms_in_one_another(self):
        self.check(
            "arch ( not in x and ( in y or letter 0 ) ) ( call 0 and not return 1 )",
            ("set", 0), ("not", 0), ("set", 1), ("not", 2), ("letter", 0), ("not", 4), ("and", 3, 5), ("not", 6),
            ("and", 1, 7), ("call", 0), ("return", 1), ("not", 10), ("and", 9, 11), ("arch", 8, 12),
        )


class Names(Reading):
    def test_given_names(self):
        for number, name in enumerate(("q", "abc", "zzzzzzzz")):
            self.check(f"all in {name}", ("set", number), ("all", 0), names=("q", "abc", "zzzzzzzz"))

    def test_the_innermost_some_counts(self):
        self.check("some z some z all in z", ("set", 1), ("all", 0), ("there", 1), ("there", 2), names=())
        self.check(
            "some z ( some z all in z and all in z )",
            ("set", 1), ("all", 0), ("there", 1), ("set", 0), ("all", 3), ("both", 2, 4), ("there", 5), names=(),
        )
        self.check(
            "some z ( all in z and some z all in z )",
            ("set", 0), ("all", 0), ("set", 1), ("all", 2), ("there", 3), ("both", 1, 4), ("there", 5), names=(),
        )

    def test_a_some_hides_a_given_name(self):
        self.check("some x all in x", ("set", 1), ("all", 0), ("there", 1), names=("x",))
        self.check(
            "( some x next in x in y and all in x )",
            ("set", 2), ("set", 1), ("next", 0, 1), ("there", 2), ("set", 0), ("all", 4), ("both", 3, 5),
        )
        self.check(
            "some x some x next in x in x",
            ("set", 2), ("set", 2), ("next", 0, 1), ("there", 2), ("there", 3), names=("x",),
        )

    def test_some_side_by_side_have_the_same_number(self):
        self.check(
            "( some a all in a and some b all in b )",
            ("set", 0), ("all", 0), ("there", 1), ("set", 0), ("all", 3), ("there", 4), ("both", 2, 5), names=(),
        )

    def test_a_name_is_not_known_behind_its_some(self):
        self.refused("( some z all in z and all in z )", 9)
        self.refused("( all in z and some z all in z )", 3)

    def test_the_form_of_names(self):
        for name in ("a", "z", "abcdefgh", "inn", "som", "lettera", "notin"):
            self.check(f"some {name} all in {name}", ("set", 0), ("all", 0), ("there", 1), names=())
        for name in ("abcdefghi", "A", "aB", "a1", "1", "a_b", "(", ")", "()", "-"):
            self.refused(f"some {name} empty", 1)
            self.refused(f"all in {name}", 2)

    def test_words_of_the_language_are_no_names(self):
        self.assertEqual(len(LANGUAGE), 16)
        for word in LANGUAGE:
            self.refused(f"some {word} empty", 1)
            self.refused(f"some {word} all in {word}", 1)
            self.refused(f"all in {word}", 2)

    def test_names_that_mean_no_set(self):
        self.refused("all in z", 2)
        self.refused("all in x", 2, names=())
        self.refused("next in x in xx", 4)
        self.refused("some z all in a", 4)


class Spaces(Reading):
    def test_any_number_of_spaces(self):
        wanted = (("nothing",), ("set", 1), ("all", 1), ("both", 0, 2))
        for written in (
            "( empty and all in y )",
            "   ( empty and all in y )",
            "( empty and all in y )    ",
            "(  empty   and    all     in      y       )",
            "     (    empty   and   all   in   y   )     ",
        ):
            self.check(written, *wanted)

    def test_spaces_do_not_count_as_words(self):
        self.refused("   all    in     z", 2)
        self.refused("(  empty  and  all  or ", 4)
        self.refused("  not   ", 1)

    def test_brackets_are_words(self):
        self.refused("(empty and empty )", 0)
        self.refused("( empty and empty)", 3)
        self.refused("all (in x and in y )", 1)


class WordsThatCannotBeRead(Reading):
    def test_nothing_at_all(self):
        self.refused("", 0)
        self.refused("    ", 0)

    def test_words_that_cannot_stand_there(self):
        for word in ("and", "or", "implies", "in", "letter", "call", "return", ")", "x", "0", "Empty", "nothing"):
            self.refused(word, 0)
            self.refused(f"not {word}", 1)
            self.refused(f"( {word} and empty )", 1)
            self.refused(f"( empty or {word} )", 3)
            self.refused(f"some z {word}", 2)
        for word in ("some", "all", "any", "empty", "and", "or", "implies", ")", "x", "0", "set", "first"):
            for name in ("all", "any", "first", "last", "next", "arch"):
                self.refused(f"{name} {word}", 1)
            self.refused(f"next in x {word}", 3)
            self.refused(f"arch in x {word}", 3)
            self.refused(f"all not {word}", 2)
            self.refused(f"all ( in x and {word} )", 5)

    def test_the_sign_in_brackets(self):
        for word in ("not", "empty", ")", "(", "x", "all", "AND"):
            self.refused(f"( empty {word} empty )", 2)
            self.refused(f"all ( in x {word} in y )", 4)
        self.refused("all ( in x implies in y )", 4)
        self.refused("( empty )", 2)
        self.refused("all ( in x )", 4)

    def test_the_end_of_brackets(self):
        self.refused("( empty and empty and empty )", 4)
        self.refused("( empty and empty empty )", 4)
        self.refused("all ( in x or in y or in x )", 7)
        self.refused("( all in x and all in y ( ", 8)

    def test_labels_that_are_not_there(self):
        for name, many in (("letter", 2), ("call", 1), ("return", 3)):
            for label in range(many, 10):
                self.refused(f"all {name} {label}", 2)
            for label in ("00", "01", "10", "-1", "+0", "x", "a", "(", ")", "0.", "in"):
                self.refused(f"all {name} {label}", 2)
        self.refused("next letter 1 letter 2", 4)

    def test_words_behind_the_last_one(self):
        self.refused("empty empty", 1)
        self.refused("all in x x", 3)
        self.refused("all in x and all in y", 3)
        self.refused("( empty and empty ) )", 5)
        self.refused("next in x in y in x", 5)
        self.refused("not empty (", 2)

    def test_words_that_are_missing_at_the_end(self):
        whole = "( some z ( next not in x ( in z or letter 0 ) implies not empty ) or any call 0 )".split()
        self.assertEqual(PlainReading(LABELS, ["x"], " ".join(whole)).failed, None)
        for number in range(len(whole)):
            self.refused(" ".join(whole[:number]), number)
            self.refused(" ".join(whole[:number]) + "  ", number)

    def test_the_first_word_counts(self):
        self.refused("( all in z and all in q )", 3)
        self.refused("( all letter 7 and or )", 3)
        self.refused("all in x or in z", 3)


class TooLarge(Reading):
    def test_60_and_61_lines(self):
        # Each "not" is a line.
        written = "not " * 59 + "empty"
        self.assertEqual(len(read_sentence(LABELS, [], written)), 60)
        self.too_large("not " + written)
        written = "all " + "not " * 58 + "in x"
        self.assertEqual(len(read_sentence(LABELS, ["x"], written)), 60)
        self.too_large("not " + written)

    def test_lines_that_are_added_count(self):
        # `any` is three lines and the place; `or` adds four lines, `implies` three, `and` one.
        for form, more in (("( {} or {} )", 4), ("( {} implies {} )", 3), ("( {} and {} )", 1)):
            for negations in range(40, 58):
                written = "not " * negations + form.format("any in x", "empty")
                lines = negations + more + 4 + 1
                if lines <= 60:
                    self.assertEqual(len(read_sentence(LABELS, ["x"], written)), lines)
                else:
                    self.too_large(written)

    def test_the_number_of_sets(self):
        for given in range(4):
            names = ["x", "y", "z"][:given]
            for deep in range(6):
                written = "some s " * deep + "empty"
                if given + deep <= 3:
                    self.assertEqual(depth_of(read_sentence(LABELS, names, written)), deep)
                else:
                    self.too_large(written, names)

    def test_some_side_by_side_are_not_deep(self):
        one = "some a some b some c all in c"
        self.assertEqual(depth_of(read_sentence(LABELS, [], f"( {one} and {one} )")), 3)
        self.too_large(f"( empty and some d {one} )", ())
        self.too_large(f"( some d {one} or empty )", ())
        self.too_large(f"( {one} and empty )", ["x"])

    def test_sets_with_higher_numbers(self):
        self.too_large("some a some b some c some d all in d", ())
        self.too_large("some a some b all in a", ["x", "y"])

    def test_words_that_cannot_be_read_come_first(self):
        self.refused("not " * 100 + "or", 100)
        self.refused("not " * 100, 100)
        self.refused("not " * 100 + "empty empty", 101)
        self.refused("some a " * 5 + "all in b", 12, names=())
        self.refused("some a " * 5 + "all in a a", 13, names=())
        self.refused("some a " * 5 + "all letter 2", 12)

    def test_very_many_words(self):
        self.too_large("not " * 5000 + "empty")
        self.refused("not " * 5000, 5000)
        self.refused("( " * 5000, 5000)
        self.refused("all " + "( " * 3000 + ")", 3001)
        self.too_large("( " * 2000 + "empty" + " and empty )" * 2000)
        self.refused("( " * 2000 + "empty" + " and empty )" * 2001, 2001 + 3 * 2000)
        self.too_large("some a " * 3000 + "all in a")


class ManySentences(Reading):
    def test_against_a_plain_reading(self):
        large = 0
        for names in ([], ["x"], ["y", "x"], ["place", "y", "ab"]):
            for written in some_written(LABELS, names, 250, seed=21 + len(names)):
                plain = PlainReading(LABELS, names, written)
                self.assertIsNone(plain.failed, written)
                if len(plain.lines) > 60 or plain.most_sets > 3:
                    self.too_large(written, names)
                    large += 1
                else:
                    found = read_sentence(LABELS, names, written)
                    self.assertEqual(found, tuple(plain.lines), written)
                    self.assertIsInstance(found, tuple)
                    self.assertIs(is_valid(LABELS, found), True)
                    self.assertEqual(len(names) + depth_of(found), plain.most_sets)
                    self.assertEqual(size_of(found), len(found))
        self.assertGreater(large, 20)

    def test_against_a_plain_reading_of_changed_words(self):
        chance = Random(9)
        failed = 0
        every = LANGUAGE + ["(", ")", "x", "y", "z", "0", "1", "2", "abcdefghi", "Q"]
        for written in some_written(LABELS, ["x", "z"], 400, seed=8):
            words = written.split()
            at = chance.randrange(len(words))
            changes = [
                words[:at] + words[at + 1:],
                words[:at] + [chance.choice(every)] + words[at:],
                words[:at] + [chance.choice(every)] + words[at + 1:],
                words[:at],
            ]
            for changed in changes:
                written = " ".join(changed)
                plain = PlainReading(LABELS, ["x", "z"], written)
                if plain.failed is not None:
                    self.refused(written, plain.failed, names=("x", "z"))
                    failed += 1
        self.assertGreater(failed, 500)


if __name__ == "__main__":
    unittest.main()
