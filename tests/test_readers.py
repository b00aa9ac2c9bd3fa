import unittest
from itertools import product

from archway.errors import InvalidPlace
from archway.readers import accepts, fault, value, value_behind
from tests.plain import plain_fault_of_reader, plain_value, texts_with
from tests.rows import nested, row
from tests.samples import (
    ALL, DEPTH, FALLS, FLIPS, NOTHING, ONE_VALUE, PARITY, RESETS, SMALL, TURNS, UNIT_LAST,
    cyclic, cyclic_flat, long_chain, trees,
)

NAMES = ("labels", "empty", "letters", "mul", "wrap", "accepted")


def changed(reader, **parts):
    """Make a reader with some other parts."""
    return tuple(parts.get(name, part) for name, part in zip(NAMES, reader))


def with_member(table, at, member):
    """Make a nested tuple with another member at a path of indexes."""
    if not at:
        return member
    inner = with_member(table[at[0]], at[1:], member)
    return table[:at[0]] + (inner,) + table[at[0] + 1:]


# Two labels of each kind and three values, the last of which is the unit.
BASE = (
    (2, 2, 2),
    2,
    (0, 1),
    ((0, 1, 0), (0, 1, 1), (0, 1, 2)),
    (((0, 1, 0), (1, 0, 2)), ((2, 2, 1), (0, 0, 0))),
    (0, 2),
)


class Fits(unittest.TestCase):
    def test_readers_that_fit(self):
        for reader in ALL + (BASE, trees(["t3"]), long_chain(["a6"]), cyclic_flat(4, [0, 4])):
            self.assertIsNone(fault(reader), reader)

    def test_the_most_labels_and_values(self):
        self.assertIsNone(fault(cyclic(3, [0, 1, 2], (24, 24, 24))))
        self.assertIsNone(fault(cyclic(60, [], (1, 1, 1))))
        self.assertIsNone(fault(cyclic(60, range(60), (1, 2, 3))))

    def test_values_that_no_text_has_count_as_well(self):
        self.assertIsNone(fault(UNIT_LAST))
        mul = with_member(UNIT_LAST[3], (1, 0), 3)
        self.assertEqual(fault(changed(UNIT_LAST, mul=mul)), ("mul", 1))


class FaultOfLabels(unittest.TestCase):
    def refused(self, labels):
        self.assertEqual(fault(changed(BASE, labels=labels)), ("labels",))

    def test_numbers_out_of_bounds(self):
        for at in range(3):
            for many in (0, -1, 25, 100):
                self.refused(with_member((2, 2, 2), (at,), many))
        self.refused((0, 0, 0))

    def test_not_three_numbers(self):
        self.refused(())
        self.refused((2,))
        self.refused((2, 2))
        self.refused((2, 2, 2, 2))

    def test_24_of_each_are_no_fault_of_labels(self):
        self.assertEqual(fault(changed(BASE, labels=(24, 2, 2))), ("letters",))
        self.assertEqual(fault(changed(BASE, labels=(2, 24, 2))), ("wrap", 2, 0))
        self.assertEqual(fault(changed(BASE, labels=(2, 2, 24))), ("wrap", 0, 2))


class FaultOfValues(unittest.TestCase):
    def test_no_row(self):
        self.assertEqual(fault(changed(BASE, mul=())), ("values",))
        self.assertEqual(fault(((1, 1, 1), 0, (0,), (), (((),),), ())), ("values",))

    def test_more_than_60_rows(self):
        self.assertEqual(fault(cyclic(61, [0])), ("values",))
        self.assertEqual(fault(cyclic(75, [])), ("values",))
        self.assertIsNone(fault(cyclic(59, [0])))

    def test_rows_are_counted_whatever_is_in_them(self):
        self.assertEqual(fault(changed(BASE, mul=((),) * 61)), ("values",))
        self.assertEqual(fault(changed(BASE, mul=((),) * 60)), ("mul", 0))


class FaultOfEmpty(unittest.TestCase):
    def test_not_a_value(self):
        for empty in (-1, -3, 3, 4, 60):
            self.assertEqual(fault(changed(BASE, empty=empty)), ("empty",))

    def test_another_value_is_a_fault_of_the_unit_alone(self):
        self.assertEqual(fault(changed(BASE, empty=0)), ("unit", 1))


class FaultOfLetters(unittest.TestCase):
    def refused(self, letters):
        self.assertEqual(fault(changed(BASE, letters=letters)), ("letters",))

    def test_not_one_for_each_label(self):
        self.refused(())
        self.refused((0,))
        self.refused((0, 1, 0))

    def test_not_values(self):
        self.refused((3, 0))
        self.refused((0, 3))
        self.refused((-1, 0))
        self.refused((0, -1))


class FaultOfMul(unittest.TestCase):
    def check(self, changes, wanted):
        mul = BASE[3]
        for at, member in changes:
            mul = with_member(mul, at, member)
        self.assertEqual(fault(changed(BASE, mul=mul)), wanted)

    def test_rows_of_another_length(self):
        for x in range(3):
            self.check([((x,), ())], ("mul", x))
            self.check([((x,), BASE[3][x][:2])], ("mul", x))
            self.check([((x,), BASE[3][x] + (0,))], ("mul", x))

    def test_members_that_are_not_values(self):
        for x, y in product(range(3), repeat=2):
            for member in (-1, 3, 9):
                self.check([((x, y), member)], ("mul", x))

    def test_the_lowest_row_counts(self):
        self.check([((2, 0), 3), ((1, 2), -1)], ("mul", 1))
        self.check([((0, 2), 3), ((1, 0), 3)], ("mul", 0))
        self.check([((1,), ()), ((2, 0), 9)], ("mul", 1))
        self.check([((2,), ()), ((1, 0), 9)], ("mul", 1))


class FaultOfWrap(unittest.TestCase):
    def check(self, wrap, wanted):
        self.assertEqual(fault(changed(BASE, wrap=wrap)), wanted)

    def test_rows_of_another_length(self):
        for a, b in product(range(2), repeat=2):
            kept = BASE[4][a][b]
            for rows in ((), kept[:2], kept + (0,)):
                self.check(with_member(BASE[4], (a, b), rows), ("wrap", a, b))

    def test_members_that_are_not_values(self):
        for a, b in product(range(2), repeat=2):
            for x in range(3):
                for member in (-1, 3, 7):
                    self.check(with_member(BASE[4], (a, b, x), member), ("wrap", a, b))

    def test_too_few_or_too_many_members(self):
        first, second = BASE[4]
        self.check((), ("wrap", 0, 0))
        self.check((first,), ("wrap", 1, 0))
        self.check((first, second, first), ("wrap", 2, 0))
        self.check((first, second, first, second), ("wrap", 2, 0))
        self.check((first, second, ()), ("wrap", 2, 0))
        self.check((first, second, first, ()), ("wrap", 2, 0))
        self.check((first, second, (BASE[4][0][0], (0, 1, 3))), ("wrap", 2, 0))

    def test_too_few_or_too_many_members_of_a_member(self):
        for a in range(2):
            one, other = BASE[4][a]
            for rows, b in (
                ((), 0), ((one,), 1), ((one, other, one), 2), ((one, other, ()), 2), ((one, other, one, ()), 2),
            ):
                self.check(with_member(BASE[4], (a,), rows), ("wrap", a, b))

    def test_the_lowest_labels_count(self):
        first, second = BASE[4]
        bad = (0, 1, 3)
        good = (0, 1, 2)
        self.check(((bad, bad), (bad, bad)), ("wrap", 0, 0))
        self.check(((good, bad), (bad, good)), ("wrap", 0, 1))
        self.check((first, (good, bad), (bad, bad)), ("wrap", 1, 1))
        self.check((first, second, (bad, bad)), ("wrap", 2, 0))
        self.check(((good, bad, bad), second), ("wrap", 0, 1))
        self.check(((good, good, bad), (bad, good)), ("wrap", 0, 2))
        self.check(((good,), (bad, bad)), ("wrap", 0, 1))
        self.check(((good, bad),), ("wrap", 0, 1))
        self.check(((bad,),), ("wrap", 0, 0))
        self.check(((good,),), ("wrap", 0, 1))
        self.check(((), ()), ("wrap", 0, 0))


class FaultOfAccepted(unittest.TestCase):
    def refused(self, accepted):
        self.assertEqual(fault(changed(BASE, accepted=accepted)), ("accepted",))

    def test_not_values(self):
        self.refused((-1,))
        self.refused((3,))
        self.refused((-1, 0))
        self.refused((0, 1, 3))

    def test_not_strictly_ascending(self):
        self.refused((0, 0))
        self.refused((1, 0))
        self.refused((0, 2, 1))
        self.refused((0, 1, 1))
        self.refused((0, 1, 2, 0))

    def test_all_or_none_are_no_fault(self):
        self.assertIsNone(fault(changed(BASE, accepted=())))
        self.assertIsNone(fault(changed(BASE, accepted=(1,))))
        self.assertIsNone(fault(changed(BASE, accepted=(0, 1, 2))))


class FaultOfUnit(unittest.TestCase):
    def check(self, changes, wanted):
        mul = BASE[3]
        for at, member in changes:
            mul = with_member(mul, at, member)
        self.assertEqual(fault(changed(BASE, mul=mul)), wanted)

    def test_from_either_side(self):
        self.check([((2, 0), 1)], ("unit", 0))
        self.check([((0, 2), 1)], ("unit", 0))
        self.check([((2, 1), 0)], ("unit", 1))
        self.check([((1, 2), 2)], ("unit", 1))
        self.check([((2, 2), 0)], ("unit", 2))

    def test_the_lowest_value_counts(self):
        self.check([((2, 1), 0), ((0, 2), 1)], ("unit", 0))
        self.check([((1, 2), 0), ((2, 0), 1)], ("unit", 0))
        self.check([((2, 2), 1), ((1, 2), 0)], ("unit", 1))

    def test_the_example_of_the_document(self):
        self.assertEqual(fault(changed(PARITY, mul=((0, 1), (0, 0)))), ("unit", 1))


class FaultOfOrder(unittest.TestCase):
    def test_every_product_of_three_values(self):
        found = {}
        for free in product(range(3), repeat=4):
            for empty in range(3):
                others = [v for v in range(3) if v != empty]
                mul = [[x if y == empty else y for y in range(3)] for x in range(3)]
                for (x, y), member in zip(product(others, repeat=2), free):
                    mul[x][y] = member
                reader = changed(BASE, empty=empty, mul=tuple(tuple(line) for line in mul))
                wanted = plain_fault_of_reader(reader)
                self.assertEqual(fault(reader), wanted, reader)
                found[wanted] = True
        # All of them are there, among them triples that differ in the last value alone.
        self.assertIn(None, found)
        for wanted in (("order", 0, 0, 0), ("order", 0, 0, 1), ("order", 0, 1, 0), ("order", 1, 1, 2)):
            self.assertIn(wanted, found)

    def test_a_fault_among_values_that_no_text_has(self):
        mul = (
            (0, 1, 2, 3),
            (1, 0, 3, 2),
            (2, 3, 2, 2),
            (3, 2, 3, 3),
        )
        reader = ((1, 1, 1), 0, (1,), mul, (((0, 1, 0, 0),),), (1,))
        self.assertEqual(fault(reader), plain_fault_of_reader(reader))
        self.assertEqual(fault(reader)[0], "order")


class SeveralFaults(unittest.TestCase):
    def test_the_first_of_the_order_counts(self):
        wrong = [
            ("labels", (2, 2, 25), ("labels",)),
            ("mul", ((9,),) * 61, ("values",)),
            ("empty", 3, ("empty",)),
            ("letters", (0, 3), ("letters",)),
            ("mul", ((0, 1, 0), (0, 1, 3), (1, 1, 0)), ("mul", 1)),
            ("wrap", (BASE[4][0],), ("wrap", 1, 0)),
            ("accepted", (2, 0), ("accepted",)),
            ("mul", ((0, 1, 1), (2, 1, 1), (0, 1, 2)), ("unit", 0)),
            ("mul", ((1, 0, 0), (1, 1, 1), (0, 1, 2)), ("order", 0, 0, 0)),
        ]
        for at, (name, part, wanted) in enumerate(wrong):
            self.assertEqual(fault(changed(BASE, **{name: part})), wanted)
            for other, more, later in wrong[at + 1:]:
                if other != name:
                    reader = changed(BASE, **{name: part, other: more})
                    self.assertEqual(fault(reader)[0], wanted[0], (wanted, later))

    def test_each_single_change(self):
        for x, y, member in product(range(3), range(3), range(-1, 4)):
            reader = changed(BASE, mul=with_member(BASE[3], (x, y), member))
            self.assertEqual(fault(reader), plain_fault_of_reader(reader), reader)

    def test_all_faults_at_once(self):
        parts = {"accepted": (1, 1), "wrap": (), "letters": (), "empty": 5, "mul": ()}
        wanted = [("values",), ("empty",), ("letters",), ("wrap", 0, 0), ("accepted",), None]
        for want, name in zip(wanted, ("mul", "empty", "letters", "wrap", "accepted", "none")):
            self.assertEqual(fault(changed(BASE, **parts)), want)
            parts.pop(name, None)


class Values(unittest.TestCase):
    def check(self, reader, words, wanted):
        text = row(words)
        before = list(text)
        self.assertEqual(value(reader, text), wanted)
        self.assertIs(accepts(reader, text), wanted in reader[5])
        self.assertEqual(text, before)

    def test_the_empty_text(self):
        for reader in ALL:
            self.check(reader, "", reader[1])

    def test_letters(self):
        for reader in ALL:
            for a, wanted in enumerate(reader[2]):
                self.check(reader, f"l{a}", wanted)
        self.check(PARITY, "l0 l0", 0)
        self.check(PARITY, "l0 l0 l0", 1)

    def test_arches(self):
        self.check(PARITY, "l0 c0 r0", 1)
        self.check(DEPTH, "c0 r0", 1)
        self.check(DEPTH, "c0 c0 r0 r0", 2)
        self.check(DEPTH, "c0 r0 c0 r0", 1)
        self.check(DEPTH, "c0 r0 c0 c0 r0 r0 l0", 2)

    def test_the_labels_of_the_call_and_of_the_return(self):
        self.check(cyclic(7, [1], (1, 2, 3)), "c0 r0", 0)
        self.check(cyclic(7, [1], (1, 2, 3)), "c1 r0", 1)
        self.check(cyclic(7, [1], (1, 2, 3)), "c1 r2", 3)
        wrap = (((0, 1, 2), (1, 1, 1)), ((2, 2, 2), (0, 0, 0)))
        reader = changed(BASE, wrap=wrap)
        self.check(reader, "c0 r0", 2)
        self.check(reader, "c0 r1", 1)
        self.check(reader, "c1 r0", 2)
        self.check(reader, "c1 r1", 0)

    def test_what_stands_first_is_multiplied_from_the_left(self):
        # In BASE the last letter decides, in this one the first letter does.
        first = changed(BASE, mul=((0, 0, 0), (1, 1, 1), (0, 1, 2)))
        self.assertIsNone(fault(first))
        self.check(BASE, "l0 l1", 1)
        self.check(BASE, "l1 l0 l0", 0)
        self.check(first, "l0 l1", 0)
        self.check(first, "l1 l0 l0", 1)

    def test_every_short_text(self):
        for reader in ALL + (BASE, trees(["t1"]), long_chain(["dead"])):
            for text in texts_with(reader[0], 4 if reader[0] > (1, 1, 1) else 6):
                wanted = plain_value(reader, text)
                before = list(text)
                self.assertEqual(value(reader, text), wanted, (reader, text))
                self.assertIs(accepts(reader, text), wanted in reader[5])
                self.assertEqual(text, before)

    def test_what_is_accepted(self):
        for text in texts_with((2, 1, 3), 3):
            self.assertIs(accepts(ONE_VALUE, text), True)
            self.assertIs(accepts(NOTHING, text), False)

    def test_a_text_has_the_same_value_however_it_is_split(self):
        for reader in SMALL + (FALLS, TURNS, BASE):
            for text in texts_with(reader[0], 4):
                for cut in range(len(text) + 1):
                    ahead, behind = text[:cut], text[cut:]
                    if [kind for kind, _ in ahead].count("call") != [kind for kind, _ in ahead].count("return"):
                        continue
                    both = reader[3][value(reader, ahead)][value(reader, behind)]
                    self.assertEqual(both, value(reader, text))
                    self.assertEqual(value_behind(reader, value(reader, ahead), behind), both)

    def test_behind_each_value(self):
        for reader in ALL + (BASE,):
            for text in texts_with(reader[0], 3):
                before = list(text)
                wanted = plain_value(reader, text)
                for start in range(len(reader[3])):
                    self.assertEqual(value_behind(reader, start, text), reader[3][start][wanted])
                self.assertEqual(text, before)

    def test_behind_a_value_that_no_text_has(self):
        self.assertEqual(value_behind(UNIT_LAST, 1, []), 1)
        self.assertEqual(value_behind(UNIT_LAST, 1, row("l0 c0 l0 r0")), 1)
        self.assertEqual(value_behind(UNIT_LAST, 2, []), 2)
        self.assertEqual(value_behind(UNIT_LAST, 0, row("l0")), 0)

    def test_the_empty_text_behind_each_value(self):
        for reader in ALL:
            for start in range(len(reader[3])):
                self.assertEqual(value_behind(reader, start, []), start)


class LongTexts(unittest.TestCase):
    def test_many_letters(self):
        for many in (200, 201, 1000, 4321):
            text = row("l0") * many
            self.assertEqual(value(cyclic(7, [1]), text), many % 7)
            self.assertEqual(value_behind(cyclic(7, [1]), 3, text), (many + 3) % 7)
            self.assertIs(accepts(PARITY, text), many % 2 == 0)

    def test_deep_texts(self):
        for deep in (100, 101, 2000):
            self.assertEqual(value(cyclic(11, [], by_arch=1), nested(deep)), deep % 11)
            self.assertEqual(value(cyclic(11, [], by_arch=1), row("l0") + nested(deep)), (deep + 1) % 11)
            self.assertIs(accepts(DEPTH, nested(deep)), True)

    def test_many_arches_side_by_side(self):
        text = row("c0 l0 r0") * 300
        self.assertEqual(value(cyclic(13, [], by_arch=1), text), 600 % 13)
        self.assertIs(accepts(DEPTH, text), False)


class LabelsThatTheReaderDoesNotHave(unittest.TestCase):
    def refused(self, reader, words, number):
        text = row(words)
        before = list(text)
        for call in (
            lambda: value(reader, text),
            lambda: accepts(reader, text),
            lambda: value_behind(reader, 0, text),
        ):
            with self.assertRaises(InvalidPlace) as caught:
                call()
            self.assertEqual(caught.exception.number, number)
            self.assertEqual(text, before)

    def test_each_kind(self):
        self.refused(PARITY, "l1", 0)
        self.refused(PARITY, "l0 c1 r0", 1)
        self.refused(PARITY, "l0 c0 r1", 2)
        self.refused(RESETS, "l1 c1 r3", 2)
        self.refused(RESETS, "c2 r2", 0)
        self.refused(FLIPS, "c1 l2 r1", 1)

    def test_labels_below_zero(self):
        self.refused(FLIPS, "l-1", 0)
        self.refused(FLIPS, "l0 c-1 r0", 1)
        self.refused(FLIPS, "l0 c0 r-2", 2)

    def test_the_first_place_counts(self):
        self.refused(PARITY, "l0 c0 l3 r2 l1", 2)
        self.refused(PARITY, "c0 c1 l2 r0 r0", 1)
        self.refused(RESETS, "l0 l1 l2 l3", 2)
        self.refused(PARITY, "l0 " * 250 + "l1", 250)

    def test_readers_with_more_than_three_labels(self):
        reader = cyclic(5, [0], (4, 8, 24))
        self.assertEqual(value(reader, row("l3 c7 r23")), (4 + 7 + 23) % 5)
        self.refused(reader, "l4", 0)
        self.refused(reader, "l3 c8 r0", 1)
        self.refused(reader, "l3 c7 r24", 2)


if __name__ == "__main__":
    unittest.main()
