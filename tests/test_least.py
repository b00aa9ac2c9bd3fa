import unittest
from itertools import product

from archway.errors import DifferentLabels, TextTooLong
from archway.joined import denied, joint
from archway.least import leaders, least, parting_context, same_texts
from archway.readers import accepts, fault, value
from archway.shortest import text_of
from archway.values import numbered
from tests.plain import in_context, plain_contexts, plain_leaders, plain_least, texts_with
from tests.rows import row
from tests.samples import (
    ALL, DEPTH, FALLS, FLIPS, NOTHING, ONE_VALUE, PARITY, RESETS, TURNS, UNIT_LAST,
    cyclic, long_chain, ruled, trees,
)


def choices(reader):
    """Make the readers with these tables and each choice of accepted values."""
    for bits in product((False, True), repeat=len(reader[3])):
        yield reader[:5] + (tuple(number for number, bit in enumerate(bits) if bit),)


# Readers whose least readers have many values, or need contexts of several steps.
NESTED = ruled(
    ["x", "y", "z"],
    {("z", "ax"): "zax", ("bzax", "y"): "end"},
    {(0, 1, "x"): "ax", (1, 0, "zax"): "bzax"},
    ["end"],
)
SEVERAL = [
    PARITY, DEPTH, UNIT_LAST, ONE_VALUE, NOTHING, FLIPS, RESETS, TURNS, FALLS, NESTED,
    cyclic(9, [4], (2, 2, 2), by_arch=1),
    cyclic(7, [1, 2, 4], (1, 1, 2)),
    trees(["t2"]),
    trees(["d1", "t3"]),
]


class Leaders(unittest.TestCase):
    def check(self, reader, told_apart, alike=()):
        """Check pairs of texts of a reader: whether their values are told apart."""
        self.assertIsNone(fault(reader))
        reader = numbered(reader)
        found = leaders(reader)
        self.assertEqual(found, plain_leaders(reader))
        for one, other in told_apart:
            self.assertNotEqual(found[value(reader, row(one))], found[value(reader, row(other))])
        for one, other in alike:
            self.assertNotEqual(value(reader, row(one)), value(reader, row(other)))
            self.assertEqual(found[value(reader, row(one))], found[value(reader, row(other))])

    def test_told_apart_at_once(self):
        self.check(PARITY, [("", "l0")])
        self.assertEqual(leaders(PARITY), [0, 1])
        self.check(ruled(["x", "y"], {}, {}, ["x"]), [("l0", "l1"), ("l0", "c0 r0")], [("l1", "c0 r0")])

    def test_told_apart_by_a_value_in_front(self):
        reader = ruled(["x", "y", "z"], {("z", "x"): "end"}, {}, ["end"])
        self.check(reader, [("l0", "l1"), ("l2", "l1")], [("l1", "c0 r0")])

    def test_told_apart_by_a_value_behind(self):
        reader = ruled(["x", "y", "z"], {("x", "z"): "end"}, {}, ["end"])
        self.check(reader, [("l0", "l1"), ("l2", "l1")], [("l1", "c0 r0")])

    def test_told_apart_by_an_arch(self):
        for a, b in product(range(3), repeat=2):
            reader = ruled(["x", "y"], {}, {(a, b, "x"): "end"}, ["end"])
            self.check(reader, [("l0", "l1")], [("l1", "l1 l1")])

    def test_told_apart_after_several_steps(self):
        self.check(NESTED, [("l0", "l1"), ("l2", "l1"), ("l2 c0 l0 r1", "l1 l1"), ("l0", "l2")])
        self.check(trees(["t6"]), [("c0 r0", "l0"), ("c0 r0 c0 r0", "l0"), ("c0 r0", "c0 c0 r0 c0 r0 r0")])
        self.check(cyclic(60, [0]), [("l0", "l0 l0"), ("", "l0")])
        self.assertEqual(leaders(cyclic(60, [17])), list(range(60)))

    def test_values_that_are_alike(self):
        self.assertEqual(leaders(cyclic(4, [0, 2])), [0, 1, 0, 1])
        self.assertEqual(leaders(cyclic(6, [1, 4])), [0, 1, 2, 0, 1, 2])
        self.assertEqual(leaders(cyclic(6, [1, 3, 5])), [0, 1, 0, 1, 0, 1])
        self.assertEqual(leaders(cyclic(6, [1, 3])), [0, 1, 2, 3, 4, 5])
        self.assertEqual(leaders(DEPTH[:5] + ((0, 1, 2),)), [0, 0, 0])
        self.assertEqual(leaders(DEPTH[:5] + ((),)), [0, 0, 0])
        self.assertEqual(leaders(DEPTH[:5] + ((1, 2),)), [0, 1, 1])
        self.assertEqual(leaders(ONE_VALUE), [0])

    def test_every_choice_of_accepted_values(self):
        for reader in (DEPTH, FLIPS, RESETS, UNIT_LAST, cyclic(6, [], (1, 1, 2), by_arch=2)):
            for chosen in choices(numbered(reader)):
                self.assertEqual(leaders(chosen), plain_leaders(chosen))

    def test_every_sample(self):
        for reader in SEVERAL:
            self.assertEqual(leaders(numbered(reader)), plain_leaders(numbered(reader)))

    def test_the_list_is_new(self):
        leaders(PARITY).append(2)
        self.assertEqual(leaders(PARITY), [0, 1])


class Least(unittest.TestCase):
    def test_the_example_of_the_document(self):
        self.assertEqual(least(DEPTH[:5] + ((0, 1, 2),)), ((1, 1, 1), 0, (0,), ((0,),), (((0,),),), (0,)))

    def test_values_that_are_alike_become_one(self):
        self.assertEqual(least(cyclic(4, [0, 2])), PARITY)
        self.assertEqual(least(cyclic(60, range(0, 60, 2))), PARITY)
        self.assertEqual(least(cyclic(6, [1, 4])), cyclic(3, [1]))
        self.assertEqual(least(DEPTH), DEPTH)

    def test_values_that_no_text_has_are_left_out(self):
        self.assertEqual(least(UNIT_LAST), ((1, 1, 1), 0, (1,), ((0, 1), (1, 1)), (((1, 1),),), (1,)))
        # The value 1 is accepted, but no text has it.
        self.assertEqual(
            least(UNIT_LAST[:5] + ((1,),)), ((1, 1, 1), 0, (0,), ((0,),), (((0,),),), ())
        )

    def test_the_leaders_are_numbered_again(self):
        # The letters are alike; the arch around nothing comes behind them, with the number 2.
        reader = ruled(["x", "y", "dead"], {}, {(0, 0, ""): "end", (0, 0, "x"): "end2"}, ["end", "end2"])
        self.assertIsNone(fault(reader))
        found = least(reader)
        self.assertEqual(found, plain_least(reader))
        reader = ruled(["x", "y"], {}, {(0, 0, ""): "end", (0, 0, "x"): "end", (0, 0, "y"): "end"}, ["end"])
        self.assertEqual(len(numbered(reader)[3]), 5)
        self.assertEqual(least(reader)[2], (1, 1))
        self.assertEqual(len(least(reader)[3]), 4)

    def test_every_choice_of_accepted_values(self):
        for reader in (DEPTH, FLIPS, RESETS, UNIT_LAST, cyclic(6, [], (1, 1, 2), by_arch=2)):
            for chosen in choices(reader):
                self.assertEqual(least(chosen), plain_least(chosen))

    def test_it_fits_and_accepts_the_same_texts(self):
        for reader in SEVERAL + list(ALL):
            found = least(reader)
            self.assertEqual(found, plain_least(reader))
            self.assertIsNone(fault(found))
            for text in texts_with(reader[0], 4):
                self.assertIs(accepts(found, text), accepts(reader, text))

    def test_it_is_its_own_least_reader(self):
        for reader in SEVERAL:
            found = least(reader)
            self.assertEqual(least(found), found)
            self.assertEqual(numbered(found), found)
            self.assertEqual(leaders(found), list(range(len(found[3]))))

    def test_readers_of_the_same_texts_have_the_same_least_reader(self):
        for reader in SEVERAL[:8]:
            wanted = least(reader)
            self.assertEqual(least(numbered(reader)), wanted)
            self.assertEqual(least(denied(denied(reader))), wanted)
            self.assertEqual(least(joint("both", reader, reader)), wanted)
            self.assertEqual(least(denied(joint("one", reader, denied(reader)))), least(reader[:5] + ((),)))
        both = least(joint("either", joint("both", PARITY, DEPTH), joint("but_not", PARITY, DEPTH)))
        self.assertEqual(both, PARITY)


class SameTexts(unittest.TestCase):
    def test_readers_of_the_same_texts(self):
        for reader in SEVERAL:
            self.assertIs(same_texts(reader, reader), True)
            self.assertIs(same_texts(reader, numbered(reader)), True)
            self.assertIs(same_texts(least(reader), reader), True)
        self.assertIs(same_texts(PARITY, cyclic(4, [0, 2])), True)
        self.assertIs(same_texts(cyclic(3, []), cyclic(5, [])), True)
        self.assertIs(same_texts(ONE_VALUE, NOTHING[:5] + ((0,),)), True)
        # They differ in a value that no text has.
        self.assertIs(same_texts(UNIT_LAST, UNIT_LAST[:5] + ((0, 1),)), True)

    def test_readers_of_different_texts(self):
        for reader in SEVERAL:
            self.assertIs(same_texts(reader, denied(reader)), False)
        self.assertIs(same_texts(PARITY, DEPTH), False)
        self.assertIs(same_texts(PARITY, cyclic(4, [0])), False)
        self.assertIs(same_texts(UNIT_LAST, UNIT_LAST[:5] + ((0, 2),)), False)

    def test_readers_that_differ_in_long_texts_alone(self):
        # They are alike but for the texts of 254 places and more.
        self.assertIs(same_texts(trees(["t6"]), trees([])), False)
        self.assertIs(same_texts(trees(["d5"]), trees(["t6"])), False)

    def test_different_labels(self):
        for labels in ((2, 1, 1), (1, 2, 1), (1, 1, 2)):
            with self.assertRaises(DifferentLabels):
                same_texts(PARITY, cyclic(2, [0], labels))
            with self.assertRaises(DifferentLabels):
                same_texts(cyclic(2, [0], labels), PARITY)


class PartingContext(unittest.TestCase):
    def check(self, reader):
        """Check the contexts of all pairs of values of a least reader."""
        told = plain_contexts(reader)
        for one, other in product(range(len(reader[3])), repeat=2):
            context = parting_context(reader, one, other)
            if one == other:
                self.assertIsNone(context)
                continue
            wanted = [
                step if step[0] == "around" else (step[0], text_of(reader, step[1]))
                for step in told[min(one, other), max(one, other)]
            ]
            self.assertEqual(context, wanted)
            texts = [in_context(context, text_of(reader, number)) for number in (one, other)]
            self.assertEqual([accepts(reader, text) for text in texts].count(True), 1)

    def test_every_pair_of_several_least_readers(self):
        for reader in SEVERAL:
            self.check(least(reader))
        self.check(least(cyclic(12, [0, 5], (1, 2, 2), by_arch=3)))
        self.check(least(joint("one", PARITY, DEPTH)))

    def test_the_empty_context(self):
        self.assertEqual(parting_context(PARITY, 0, 1), [])
        self.assertEqual(parting_context(PARITY, 1, 0), [])
        self.assertEqual(parting_context(DEPTH, 0, 2), [])

    def test_by_hand(self):
        # Between no arch and one arch: an arch around, as nothing ahead or behind helps.
        self.assertEqual(parting_context(DEPTH, 0, 1), [("around", 0, 0)])
        self.assertEqual(parting_context(DEPTH, 1, 0), [("around", 0, 0)])
        seven = cyclic(7, [3])
        self.assertEqual(parting_context(seven, 0, 1), [("ahead", row("l0 l0"))])
        self.assertEqual(parting_context(seven, 0, 2), [("ahead", row("l0"))])
        self.assertEqual(parting_context(seven, 4, 6), [("ahead", row("l0 l0 l0 l0"))])
        self.assertEqual(parting_context(seven, 6, 3), [])

    def test_each_value(self):
        self.assertIsNone(parting_context(PARITY, 0, 0))
        self.assertIsNone(parting_context(DEPTH, 2, 2))
        self.assertIsNone(parting_context(least(ONE_VALUE), 0, 0))

    def test_ahead_is_tried_before_behind(self):
        # The letter 2 ahead of x and the letter 1 behind x give what is accepted.
        reader = least(ruled(["x", "y", "z"], {("z", "x"): "end", ("x", "y"): "end"}, {}, ["end"]))
        dead = value(reader, row("c0 r0"))
        self.assertEqual(parting_context(reader, value(reader, row("l0")), dead), [("ahead", row("l2"))])
        self.assertEqual(parting_context(reader, value(reader, row("l1")), dead), [("ahead", row("l0"))])
        self.assertEqual(parting_context(reader, value(reader, row("l2")), dead), [("behind", row("l0"))])

    def test_behind_is_tried_before_around(self):
        arches = {(0, 0, "x"): "end", (1, 1, "y"): "end", (1, 0, "y"): "end"}
        reader = least(ruled(["x", "y"], {("x", "y"): "end"}, arches, ["end"]))
        dead = value(reader, row("c0 r0"))
        self.assertEqual(parting_context(reader, dead, value(reader, row("l0"))), [("behind", row("l1"))])
        self.assertEqual(parting_context(reader, value(reader, row("l1")), dead), [("ahead", row("l0"))])

    def test_calls_are_tried_before_returns(self):
        arches = {(0, 1, "x"): "end", (1, 0, "x"): "end"}
        reader = least(ruled(["x", "y"], {}, arches, ["end"]))
        one, dead = value(reader, row("l0")), value(reader, row("l1"))
        self.assertEqual(parting_context(reader, one, dead), [("around", 0, 1)])

    def test_every_label_of_an_arch(self):
        for a, b in product(range(4), repeat=2):
            reader = least(ruled(["x", "y"], {}, {(a, b, "x"): "end"}, ["end"]))
            one, dead = value(reader, row("l0")), value(reader, row("l1"))
            self.assertEqual(parting_context(reader, dead, one), [("around", a, b)])

    def test_an_earlier_round_comes_before_an_earlier_step(self):
        # Ahead of x, the letter 1 leads to what an arch accepts; an arch accepts x itself.
        reader = ruled(["x", "y"], {("y", "x"): "yx"}, {(0, 0, "yx"): "end", (0, 1, "x"): "end"}, ["end"])
        reader = least(reader)
        dead = value(reader, row("c0 r0"))
        self.assertEqual(parting_context(reader, value(reader, row("l0")), dead), [("around", 0, 1)])

    def test_several_steps(self):
        reader = least(NESTED)
        dead = value(reader, row("l1 l1"))
        self.assertEqual(
            parting_context(reader, value(reader, row("l0")), dead),
            [("around", 0, 1), ("ahead", row("l2")), ("around", 1, 0), ("behind", row("l1"))],
        )
        self.assertEqual(
            parting_context(reader, dead, value(reader, row("l2"))),
            [("behind", row("c0 l0 r1")), ("around", 1, 0), ("behind", row("l1"))],
        )

    def test_texts_with_200_and_with_more_places(self):
        for name, places in (("odd", 199), ("a6", 200), ("edge", 201), ("a7", 202), ("a8", 204)):
            reader = least(long_chain(["end"], ["l", "m"], {("m", name): "end"}))
            one = value(reader, row("l1"))
            other = value(reader, row("l1 l1"))
            if places <= 200:
                context = parting_context(reader, one, other)
                self.assertEqual([(step[0], len(step[1])) for step in context], [("behind", places)])
            else:
                with self.assertRaises(TextTooLong):
                    parting_context(reader, one, other)
                with self.assertRaises(TextTooLong):
                    parting_context(reader, other, one)

    def test_the_list_is_new(self):
        context = parting_context(cyclic(7, [3]), 0, 1)
        context[0][1].append(("letter", 0))
        context.append(("around", 0, 0))
        self.assertEqual(parting_context(cyclic(7, [3]), 0, 1), [("ahead", row("l0 l0"))])


if __name__ == "__main__":
    unittest.main()
