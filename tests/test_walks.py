import unittest
from itertools import product

from archway.errors import TooManyLines
from archway.readers import accepts, fault, value
from archway.walks import sentence_for, sets_for, walk_for
from tests.plain import texts_with
from tests.plain_sentences import plain_subsets
from tests.plain_walks import is_walked, laid_out, plain_sentence, plain_sets, plain_walk
from tests.rows import nested, row
from tests.samples import ALL, DEPTH, FLIPS, NOTHING, ONE_VALUE, PARITY, RESETS, SMALL, UNIT_LAST, cyclic

# Accepts all texts of one label of each kind.
EVERY = ((1, 1, 1), 0, (0,), ((0,),), (((0,),),), (0,))
LABELLED = (
    cyclic(2, [1], (3, 1, 1)), cyclic(2, [0, 1], (1, 3, 1)), cyclic(2, [], (1, 1, 3)), cyclic(3, [0, 2], (2, 3, 2)),
)


def many_lines(reader):
    """Tell how many lines a walk has, counted by hand from points 40 to 42."""
    (letters, calls, returns), _, _, mul, _, accepted = reader
    n, labels = len(mul), letters + calls + returns
    behind = 6 * labels + 5
    call = 5 * calls + 6
    one = 5 * n + 6 * n * (n - 1) + n * n + 6
    edges = (behind + 1) + (call + behind + 1) + (5 * len(accepted) + 7)
    following = n * (call + 3 + behind + 1)
    closed = n * calls * (3 + 8 * returns * n + 5 + 1)
    return one + edges + following + closed + (4 + n + n * calls) + 6


class Lines(unittest.TestCase):
    def test_the_example(self):
        self.assertEqual(
            sentence_for(EVERY)[:5], (("nothing",), ("denied", 0), ("set", 0), ("set", 0), ("not", 3)),
        )

    def test_the_smallest_walk(self):
        def behind(at):
            """IF(letter, set), IF(call, set), IF(return, inner set), YES and the three `and`."""
            return (
                ("letter", 0), ("set", 0), ("not", at + 1), ("and", at, at + 2), ("not", at + 3),
                ("call", 0), ("set", 0), ("not", at + 6), ("and", at + 5, at + 7), ("not", at + 8),
                ("return", 0), ("set", 1), ("not", at + 11), ("and", at + 10, at + 12), ("not", at + 13),
                *yes(at + 15), ("and", at + 14, at + 19), ("and", at + 9, at + 20), ("and", at + 4, at + 21),
            )

        def yes(at):
            return (("set", 0), ("set", 0), ("not", at + 1), ("and", at, at + 2), ("not", at + 3))

        def any_of(at, line):
            return (
                line, ("not", at), *yes(at + 2), ("not", at + 6), ("not", at + 7), ("and", at + 1, at + 8),
                ("not", at + 9),
            )

        wanted = (
            *yes(0), *yes(5), ("and", 4, 9), ("all", 10),
            *behind(12), ("first", 34),
            *any_of(36, ("call", 0)), *behind(47), ("next", 46, 69),
            *any_of(71, ("set", 0)), ("last", 81),
            *any_of(83, ("call", 0)), ("not", 93), ("set", 0), ("and", 94, 95), *behind(97), ("next", 96, 119),
            ("call", 0), ("set", 0), ("and", 121, 122),
            ("return", 0), ("set", 1), ("and", 124, 125), ("set", 0), ("not", 127), ("and", 126, 128), ("not", 129),
            *yes(131), ("and", 130, 135), ("arch", 123, 136),
            *yes(138), ("all", 142),
            ("both", 137, 143), ("both", 120, 144), ("both", 82, 145), ("both", 70, 146), ("both", 35, 147),
            ("both", 11, 148),
        )
        # `behind` has 23 lines and `any_of` 11: the numbers above are one part behind the other.
        self.assertEqual(len(behind(0)), 23)
        self.assertEqual(walk_for(EVERY), wanted)

    def test_walks(self):
        for reader in SMALL + LABELLED + (EVERY,):
            found = walk_for(reader)
            self.assertEqual(found, laid_out(plain_walk(reader)))
            self.assertEqual(len(found), many_lines(reader))
            self.assertIsInstance(found, tuple)
            self.assertEqual({isinstance(line, tuple) for line in found}, {True})

    def test_sentences(self):
        for reader in SMALL + LABELLED + (EVERY,):
            found = sentence_for(reader)
            self.assertEqual(found, laid_out(plain_sentence(reader)))
            self.assertIsInstance(found, tuple)

    def test_accepted_and_not_accepted_empty(self):
        odd = PARITY[:5] + ((1,),)
        walk = walk_for(odd)
        many = len(walk) + 2
        # The numbers in the walk are two greater, but not those of sets and labels.
        moved = tuple(
            line if line[0] in ("set", "letter", "call", "return")
            else (line[0], *[number + 2 for number in line[1:]])
            for line in walk
        )
        there = tuple(("there", many - 1 + number) for number in range(4))
        self.assertEqual(
            sentence_for(odd), (("nothing",), ("denied", 0)) + moved + there + (("both", 1, many + 3),),
        )
        every = PARITY[:5] + ((0, 1),)
        many = len(walk_for(every)) + 2
        self.assertEqual(
            sentence_for(every)[many:],
            tuple(("there", many - 1 + number) for number in range(4))
            + (("denied", many + 3), ("both", 1, many + 4), ("denied", many + 5)),
        )

    def test_no_accepted_value(self):
        self.assertEqual(NOTHING[5], ())
        found = walk_for(NOTHING)
        # `last` of `not` of YES.
        at = found.index(("last", [number for number, line in enumerate(found) if line[0] == "last"][0] - 1))
        self.assertEqual(
            found[at - 6:at],
            (("set", 0), ("set", 0), ("not", at - 5), ("and", at - 6, at - 4), ("not", at - 3), ("not", at - 2)),
        )
        self.assertEqual(found, laid_out(plain_walk(NOTHING)))

    def test_readers_stay_as_they_were(self):
        before = repr(FLIPS)
        walk_for(FLIPS)
        sentence_for(FLIPS)
        sets_for(FLIPS, row("l0 c1 l1 r0"))
        self.assertEqual(repr(FLIPS), before)


class TooMany(unittest.TestCase):
    def refused(self, make, reader):
        with self.assertRaises(TooManyLines):
            make(reader)

    def find(self, wanted, more_of):
        """Find a reader whose walk or sentence has exactly so many lines."""
        for n in range(1, 30):
            for letters, calls, returns in product(range(1, 25), repeat=3):
                for accepted in range(n + 1):
                    shape = ((letters, calls, returns), 0, (), [()] * n, (), range(accepted))
                    if many_lines(shape) + more_of(n, accepted) == wanted:
                        return cyclic(n, range(accepted), (letters, calls, returns))
        raise AssertionError("there is no such reader")

    def test_walks_of_4000_lines_and_more(self):
        reader = self.find(4000, lambda n, accepted: 0)
        self.assertIsNone(fault(reader))
        found = walk_for(reader)
        self.assertEqual(len(found), 4000)
        self.assertEqual(found, laid_out(plain_walk(reader)))
        self.refused(sentence_for, reader)
        for many in (4001, 4002, 4003):
            self.refused(walk_for, self.find(many, lambda n, accepted: 0))

    def test_sentences_of_4000_lines_and_more(self):
        for least in (0, 1):
            # The value `empty` is accepted if any value is.
            def more(n, accepted):
                if (accepted > 0) != (least > 0):
                    return 10 ** 9
                return 2 * n + (5 if accepted else 3)

            reader = self.find(4000, more)
            found = sentence_for(reader)
            self.assertEqual(len(found), 4000)
            self.assertEqual(found, laid_out(plain_sentence(reader)))
            over = self.find(4001, more)
            self.refused(sentence_for, over)
            # The walk alone has fewer lines.
            self.assertEqual(walk_for(over), laid_out(plain_walk(over)))

    def test_far_too_many(self):
        large = cyclic(60, [0], (24, 24, 24))
        self.refused(walk_for, large)
        self.refused(sentence_for, large)


class Sets(unittest.TestCase):
    def check(self, reader, text, wanted):
        before = list(text)
        self.assertEqual(sets_for(reader, text), wanted)
        self.assertEqual(text, before)
        self.assertEqual(plain_sets(reader, text), wanted)

    def test_the_example(self):
        self.check(PARITY, row("l0 c0 r0"), [[], [0, 1, 2], [2], []])

    def test_the_empty_text(self):
        self.check(PARITY, [], [[], [], [], []])
        self.check(EVERY, [], [[], []])
        self.check(UNIT_LAST, [], [[]] * 6)

    def test_letters(self):
        self.check(PARITY, row("l0 l0 l0 l0"), [[1, 3], [0, 2], [], []])
        self.check(cyclic(3, [0], (2, 1, 1)), row("l0 l1 l1"), [[1], [0], [2], [], [], []])

    def test_nested_arches(self):
        # The values of DEPTH: no arch, an arch, an arch in another one.
        self.check(DEPTH, nested(2), [[0, 1], [2], [3], [2], [3], []])
        self.check(DEPTH, nested(3), [[0, 1, 2], [3], [4, 5], [3], [4], [5]])
        self.check(DEPTH, row("c0 l0 r0"), [[0, 1], [2], [], [2], [], []])

    def test_texts_side_by_side(self):
        self.check(DEPTH, row("c0 r0 c0 c0 r0 r0 l0"), [[0, 3], [1, 2, 4], [5, 6], [1, 4], [5], []])
        self.check(PARITY, row("l0 c0 l0 r0 c0 r0"), [[3, 4, 5], [0, 1, 2], [5], [3]])

    def test_a_call_has_the_value_ahead_of_it(self):
        self.check(PARITY, row("l0 c0 l0 c0 l0 r0 r0"), [[5], [0, 1, 2, 3, 4, 6], [6], [5]])

    def test_all_short_texts(self):
        for reader in SMALL + LABELLED:
            most = 4 if reader[0] == (1, 1, 1) else 3
            for text in texts_with(reader[0], most):
                self.check(reader, text, plain_sets(reader, text))

    def test_long_texts(self):
        self.assertEqual(sets_for(EVERY, nested(4000)), [list(range(8000)), list(range(4000, 8000))])
        for reader in ALL[-3:]:
            text = row("l0 c0 l1 c1 l0 l1 r0 r1 c0 r0 l1 " * 8)
            self.check(reader, text, plain_sets(reader, text))


class Walking(unittest.TestCase):
    """The walk is true of a text exactly if there are such sets (point 43)."""

    def test_the_sets_of_accepted_texts(self):
        for reader in (PARITY, DEPTH, UNIT_LAST, ONE_VALUE, NOTHING, RESETS, EVERY) + LABELLED:
            lines = walk_for(reader)
            for text in texts_with(reader[0], 4 if reader[0] == (1, 1, 1) else 3):
                if text:
                    sets = sets_for(reader, text)
                    self.assertIs(is_walked(lines, text, sets), accepts(reader, text), (reader, text))

    def test_longer_texts(self):
        for reader, words in (
            (DEPTH, "c0 l0 c0 r0 l0 r0 c0 r0"), (DEPTH, "c0 r0 l0 c0 r0"), (PARITY, "l0 c0 l0 c0 l0 r0 r0 c0 r0"),
            (FLIPS, "l0 c1 l1 r1 c0 l0 c1 r0 r0 l1"), (FLIPS, "l1 c1 l1 r1 c0 l0 c1 r0 r0 l0"),
        ):
            text = row(words)
            for accepted in ((), (value(reader, text),), tuple(range(len(reader[3])))):
                lines = walk_for(reader[:5] + (accepted,))
                self.assertIs(is_walked(lines, text, sets_for(reader, text)), accepted != ())

    def test_one_place_changed(self):
        for reader in (PARITY, DEPTH, EVERY) + LABELLED[:2]:
            # All values are accepted, so that only the sets can be wrong.
            every = reader[:5] + (tuple(range(len(reader[3]))),)
            lines = walk_for(every)
            for text in texts_with(reader[0], 3) + [row("c0 l0 c0 r0 r0 c0 r0")]:
                sets = sets_for(every, text)
                for number in range(len(reader[3])):
                    for place in range(len(text)):
                        changed = [list(one) for one in sets]
                        if place in changed[number]:
                            changed[number].remove(place)
                        else:
                            changed[number] = sorted(changed[number] + [place])
                        self.assertFalse(is_walked(lines, text, changed), (reader, text, number, place))

    def test_all_choices_of_sets(self):
        for reader, most in ((EVERY, 3), (ONE_VALUE, 2), (NOTHING, 2), (PARITY, 2), (PARITY[:5] + ((0,),), 2)):
            lines = walk_for(reader)
            n = len(reader[3])
            for text in texts_with(reader[0], most):
                if text:
                    every = list(plain_subsets(text))
                    true_of = [sets for sets in product(every, repeat=2 * n) if is_walked(lines, text, sets)]
                    self.assertIs(true_of != [], accepts(reader, text), (reader, text))
                    for sets in true_of:
                        self.assertEqual(list(sets[:n]), plain_sets(reader, text)[:n])


if __name__ == "__main__":
    unittest.main()
