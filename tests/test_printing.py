import unittest

from archway.meaning import depth_of, holds, is_valid, size_of
from archway.parsing import read_sentence
from archway.printing import write_sentence
from tests.plain import texts_with
from tests.plain_sentences import (
    has_loose_set, plain_holds, plain_size, plain_subsets, rich_sentences, some_sentences, some_written,
)

LABELS = (2, 1, 3)
END = ("nothing",)


def plain_written(names, sentence, sets, number=-1):
    """Write a line as point 32 says it, by putting the parts into a form."""
    line = sentence[number]

    def name_of(wanted):
        if wanted < len(names):
            return names[wanted]
        return [sign + "abc"[wanted] for sign in "stu" if sign + "abc"[wanted] not in names][0]

    if line[0] == "set":
        return f"in {name_of(line[1])}"
    if line[0] in ("letter", "call", "return"):
        return f"{line[0]} {line[1]}"
    parts = [plain_written(names, sentence, sets + (line[0] == "there"), part) for part in line[1:]]
    if line[0] in ("and", "both"):
        return f"( {parts[0]} and {parts[1]} )"
    if line[0] == "there":
        return f"some {name_of(sets)} {parts[0]}"
    return " ".join([{"not": "not", "denied": "not", "nothing": "empty"}.get(line[0], line[0])] + parts)


class Writing(unittest.TestCase):
    def check(self, written, *lines, names=("x", "y")):
        given = list(names)
        self.assertIs(is_valid(LABELS, lines), True)
        self.assertEqual(write_sentence(given, lines), written)
        self.assertEqual(given, list(names))


class Forms(Writing):
    def test_lines_about_places(self):
        self.check("all in x", ("set", 0), ("all", 0))
        self.check("all in y", ("set", 1), ("all", 0))
        self.check("all letter 1", ("letter", 1), ("all", 0))
        self.check("all call 0", ("call", 0), ("all", 0))
        self.check("all return 2", ("return", 2), ("all", 0))
        self.check("all not letter 0", ("letter", 0), ("not", 0), ("all", 1))
        self.check("all ( in y and call 0 )", ("call", 0), ("set", 1), ("and", 1, 0), ("all", 2))

    def test_lines_about_texts(self):
        places = (("set", 0), ("letter", 0))
        self.check("first in x", *places, ("first", 0))
        self.check("last letter 0", *places, ("last", 1))
        self.check("next in x letter 0", *places, ("next", 0, 1))
        self.check("next letter 0 in x", *places, ("next", 1, 0))
        self.check("arch in x letter 0", *places, ("arch", 0, 1))
        self.check("arch letter 0 in x", *places, ("arch", 1, 0))
        self.check("empty", END)
        self.check("not empty", END, ("denied", 0))
        self.check("( all in x and empty )", *places, ("all", 0), END, ("both", 2, 3))
        self.check("( empty and all in x )", *places, ("all", 0), END, ("both", 3, 2))
        self.check("some sc empty", END, ("there", 0))

    def test_the_last_line_is_written_alone(self):
        self.check("empty", ("set", 0), ("all", 0), END, ("there", 2), END)
        self.check("not last in x", ("set", 0), ("last", 0), ("first", 0), ("denied", 1))

    def test_parts_in_one_another(self):
        self.check(
            "( not ( empty and not empty ) and next not ( in x and not in y ) not not in x )",
            ("set", 0), ("set", 1), ("not", 1), ("and", 0, 2), ("not", 3), ("not", 0), ("not", 5), ("next", 4, 6),
            END, ("denied", 8), ("both", 8, 9), ("denied", 10), ("both", 11, 7),
        )

    def test_lines_that_are_used_several_times(self):
        self.check("( empty and empty )", END, ("both", 0, 0))
        self.check("next in x in x", ("set", 0), ("next", 0, 0))
        self.check(
            "( ( all ( in x and in x ) and not all ( in x and in x ) ) and all ( in x and in x ) )",
            ("set", 0), ("and", 0, 0), ("all", 1), ("denied", 2), ("both", 2, 3), ("both", 4, 2),
        )

    def test_the_size_of_200(self):
        doubled = (END,) + tuple(("both", number, number) for number in range(6))
        self.assertEqual(size_of(doubled), 127)
        whole = doubled + tuple(("denied", number) for number in range(6, 59))
        self.assertEqual(size_of(whole), 180)
        written = write_sentence([], whole)
        self.assertEqual(written.split().count("empty"), 64)
        self.assertTrue(written.startswith("not " * 53 + "( ( ( ( ( ( empty and empty ) and ( empty and"))
        large = (("set", 0), ("and", 0, 0)) + tuple(("and", number, number) for number in range(1, 6))
        large += (("all", 6),) + tuple(("denied", number) for number in range(7, 59))
        self.assertEqual(write_sentence(["mine"], large).split().count("mine"), 64)


class Names(Writing):
    def test_given_names(self):
        self.check("all in b", ("set", 1), ("all", 0), names=("a", "b", "c"))
        self.check("all in lettersx", ("set", 2), ("all", 0), names=("a", "b", "lettersx"))
        self.check("all in sc", ("set", 0), ("all", 0), names=("sc", "sb", "sa"))

    def test_names_by_the_number_of_there_around(self):
        inner = (("set", 0), ("set", 1), ("set", 2))
        self.check("some sa all in sa", *inner, ("all", 0), ("there", 3), names=())
        self.check("some sb all in sb", *inner, ("all", 1), ("there", 3), names=("x",))
        self.check("some sb all in x", *inner, ("all", 0), ("there", 3), names=("x",))
        self.check("some sc all in sc", *inner, ("all", 2), ("there", 3), names=("x", "y"))
        self.check(
            "some sa some sb some sc next in sc ( in sa and in sb )",
            *inner, ("and", 0, 1), ("next", 2, 3), ("there", 4), ("there", 5), ("there", 6), names=(),
        )
        self.check(
            "some sb some sc next in sc in sb",
            *inner, ("next", 2, 1), ("there", 3), ("there", 4), names=("x",),
        )

    def test_there_side_by_side(self):
        self.check(
            "( some sa all in sa and some sa ( first in sa and some sb next in sa in sb ) )",
            ("set", 0), ("all", 0), ("there", 1), ("set", 1), ("next", 0, 3), ("there", 4), ("first", 0),
            ("both", 6, 5), ("there", 7), ("both", 2, 8), names=(),
        )

    def test_a_line_inside_different_numbers_of_there(self):
        # The same `there` has the name of another number inside of another one.
        self.check(
            "( some sb all in x and some sb some sc all in x )",
            ("set", 0), ("all", 0), ("there", 1), ("there", 2), ("both", 2, 3), names=("x",),
        )
        self.check(
            "( all in sa and some sb all in sa )",
            ("set", 0), ("all", 0), ("there", 1), ("both", 1, 2), names=("sa",),
        )

    def test_names_that_are_given_already(self):
        there = (("set", 1), ("all", 0), ("there", 1))
        self.check("some sb all in sb", *there, names=("sa",))
        self.check("some tb all in tb", *there, names=("sb",))
        self.check("some sb all in sb", *there, names=("tb",))
        there = (("set", 2), ("all", 0), ("there", 1))
        self.check("some uc all in uc", *there, names=("sc", "tc"))
        self.check("some uc all in uc", *there, names=("tc", "sc"))
        self.check("some tc all in tc", *there, names=("sc", "uc"))
        self.check("some sc all in sc", *there, names=("tc", "uc"))
        self.check("some sc all in sc", *there, names=("sa", "sb"))
        deep = (("set", 1), ("set", 2), ("arch", 0, 1), ("there", 2), ("there", 3))
        self.check("some sb some tc arch in sb in tc", *deep, names=("sc",))
        self.check("some tb some sc arch in tb in sc", *deep, names=("sb",))


class ReadAgain(unittest.TestCase):
    def check(self, labels, names, sentence):
        written = write_sentence(names, sentence)
        self.assertEqual(written, plain_written(names, sentence, len(names)))
        self.assertEqual(written, " ".join(written.split()))
        again = read_sentence(labels, names, written)
        self.assertEqual(len(again), plain_size(sentence))
        self.assertEqual(write_sentence(names, again), written)
        return again

    def test_sentences_of_a_size_of_at_most_60(self):
        texts = texts_with((1, 1, 1), 3) + texts_with((2, 1, 2), 2)
        tried = 0
        for sentence in some_sentences((2, 1, 2), 500, seed=8, most_depth=3, most_size=60):
            for names in ([], ["sb"], ["x", "sc"], ["tb", "sa", "sc"]):
                given = len(names)
                if depth_of(sentence) + given > 3 or has_loose_set(sentence, given):
                    continue
                again = self.check((2, 1, 2), names, sentence)
                for text in texts[tried % 5::5]:
                    sets = [every[tried % len(every)] for every in [list(plain_subsets(text))] * given]
                    self.assertIs(holds(again, text, sets), plain_holds(sentence, text, sets), (sentence, text))
                tried += 1
        self.assertGreater(tried, 300)

    def test_richer_sentences(self):
        tried = 0
        for sentence in rich_sentences((2, 1, 2), 200, seed=9):
            for names in ([], ["sc"], ["tc", "sc"]):
                if depth_of(sentence) + len(names) <= 3 and not has_loose_set(sentence, len(names)):
                    if plain_size(sentence) <= 60:
                        self.check((2, 1, 2), names, sentence)
                    else:
                        written = plain_written(names, sentence, len(names))
                        self.assertEqual(write_sentence(names, sentence), written)
                    tried += 1
        self.assertGreater(tried, 50)

    def test_sentences_that_were_read(self):
        names = ["x", "y"]
        for written in some_written(LABELS, names, 200, seed=7, most_deep=3):
            try:
                sentence = read_sentence(LABELS, names, written)
            except ValueError:
                continue
            self.assertEqual(self.check(LABELS, names, sentence), sentence)


if __name__ == "__main__":
    unittest.main()
