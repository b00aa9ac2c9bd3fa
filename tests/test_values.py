import unittest

from archway.readers import accepts, fault, value
from archway.values import numbered, values
from tests.plain import plain_list, plain_numbered, plain_tables, texts_with
from tests.samples import (
    ALL, DEPTH, FALLS, ONE_VALUE, PARITY, SHIFTS, UNIT_LAST, cyclic, cyclic_flat, long_chain, ruled, trees,
)


def free(count, letters, wrap):
    """A reader with `count` values besides the unit 0; each product of two of them is the last one."""
    mul = tuple(
        tuple(max(x, y) if 0 in (x, y) else count for y in range(count + 1)) for x in range(count + 1)
    )
    return ((len(letters), len(wrap), len(wrap[0])), 0, tuple(letters), mul, wrap, (count,))


class ListOfValues(unittest.TestCase):
    def test_the_example_of_the_document(self):
        self.assertEqual(values(UNIT_LAST, 60), [2, 0])

    def test_the_empty_text_is_first_then_the_letters_by_their_labels(self):
        reader = free(4, (3, 1, 2), (((0, 1, 2, 3, 4),),))
        self.assertIsNone(fault(reader))
        self.assertEqual(values(reader, 60), [0, 3, 1, 2, 4])

    def test_letters_with_the_same_value(self):
        reader = free(4, (2, 2, 0), (((0, 1, 2, 3, 4),),))
        self.assertEqual(values(reader, 60), [0, 2, 4])

    def test_products_are_added_before_arches(self):
        # The arch around nothing is 1, so it is added behind the product 4.
        reader = free(4, (3,), (((1, 1, 1, 3, 4),),))
        self.assertEqual(values(reader, 60), [0, 3, 4, 1])

    def test_products_in_the_order_of_the_first_one_then_the_second_one(self):
        products = {("b", "a"): "ba", ("a", "b"): "ab", ("a", "a"): "aa", ("b", "b"): "bb"}
        reader = ruled(["b", "a"], products, {}, [])
        self.assertIsNone(fault(reader))
        # The values are "", "dead", b, a, ba, ab, aa, bb; dead comes by an arch around nothing.
        self.assertEqual(values(reader, 60), [0, 2, 3, 7, 4, 5, 6, 1])

    def test_arches_in_the_order_of_the_call_the_return_and_the_inside(self):
        arches = {
            (1, 1, "l"): "11l", (0, 1, ""): "01", (1, 0, ""): "10", (0, 0, "l"): "00l",
            (0, 1, "l"): "01l", (1, 0, "l"): "10l", (1, 1, ""): "11", (0, 0, ""): "00",
        }
        names = ["", "l", "dead", "00", "00l", "01", "01l", "10", "10l", "11", "11l"]
        reader = ruled(["l"], {}, arches, [])
        self.assertIsNone(fault(reader))
        order = ["", "dead", "l"] + list(arches.values())
        self.assertEqual(values(reader, 60), [order.index(name) for name in names])

    def test_values_that_are_added_in_a_round_are_not_taken_in_it(self):
        # Round 1 adds the product 5 of the letters and then the arches 2 and 3. An arch around
        # 5, which is 4, comes in round 2, behind all that round 1 adds.
        reader = free(5, (1,), (((2, 3, 2, 2, 4, 4),),))
        self.assertIsNone(fault(reader))
        self.assertEqual(values(reader, 60), [0, 1, 5, 2, 3, 4])

    def test_an_arch_of_a_round_is_not_taken_for_another_arch_in_it(self):
        # Around nothing by label 0 is 1, and around that by label 0 or 1 is 2 or 3; all
        # that label 1 makes of the empty text comes before.
        wrap = (((1, 2, 5, 5, 5, 5),), ((4, 3, 5, 5, 5, 5),))
        reader = free(5, (0,), wrap)
        self.assertIsNone(fault(reader))
        self.assertEqual(values(reader, 60), [0, 1, 4, 5, 2, 3])

    def test_products_of_values_of_different_rounds(self):
        for reader in (trees([]), long_chain([])):
            found = plain_list(*plain_tables(reader)[:5], 60)
            self.assertEqual(values(reader, 60), found)
            self.assertEqual(sorted(found), list(range(len(reader[3]))))

    def test_every_sample(self):
        for reader in ALL + (cyclic(17, []), cyclic_flat(5, [2])):
            self.assertEqual(values(reader, 60), plain_list(*plain_tables(reader)[:5], 60))

    def test_each_value_of_the_list_is_the_value_of_a_text_and_no_other_one_is(self):
        for reader in ALL:
            of_texts = {value(reader, text) for text in texts_with(reader[0], 5)}
            self.assertEqual(sorted(of_texts), sorted(values(reader, 60)))

    def test_the_list_is_new(self):
        for reader in ALL:
            wanted = list(values(reader, 60))
            values(reader, 60).append(7)
            self.assertEqual(values(reader, 60), wanted)


class Limits(unittest.TestCase):
    def check(self, reader, count):
        self.assertEqual(len(values(reader, count)), count)
        self.assertEqual(values(reader, count + 1), values(reader, count))
        self.assertEqual(values(reader, 200), values(reader, count))
        for most in range(1, count):
            self.assertIsNone(values(reader, most))

    def test_just_enough_and_just_not_enough(self):
        self.check(ONE_VALUE, 1)
        self.check(PARITY, 2)
        self.check(UNIT_LAST, 2)
        self.check(DEPTH, 3)
        self.check(FALLS, 13)
        self.check(SHIFTS, 6)

    def test_after_the_letters(self):
        letters = free(4, (3, 1, 2, 4), (((0, 1, 2, 3, 4),),))
        self.check(letters, 5)
        self.check(cyclic(10, [], (24, 1, 1)), 10)

    def test_after_a_round(self):
        self.check(trees([]), 15)
        self.check(cyclic(60, []), 60)
        self.check(free(5, (0,), (((1, 2, 5, 5, 5, 5),), ((4, 3, 5, 5, 5, 5),))), 6)

    def test_values_that_no_text_has_do_not_count(self):
        self.assertEqual(values(SHIFTS, 6), plain_list(*plain_tables(SHIFTS)[:5], 6))
        self.assertEqual(len(SHIFTS[3]), 27)


class Numbered(unittest.TestCase):
    def test_values_that_no_text_has_are_left_out(self):
        wanted = ((1, 1, 1), 0, (1,), ((0, 1), (1, 1)), (((1, 1),),), (1,))
        self.assertEqual(numbered(UNIT_LAST), wanted)

    def test_every_sample(self):
        for reader in ALL + (cyclic(17, [1, 16]), trees(["t2", "dead"]), long_chain(["odd"])):
            found = numbered(reader)
            self.assertEqual(found, plain_numbered(*plain_tables(reader)))
            self.assertIsNone(fault(found))
            self.assertEqual(found[0], reader[0])
            self.assertEqual(found[1], 0)
            self.assertEqual(values(found, 60), list(range(len(found[3]))))

    def test_each_value_stands_for_the_one_at_its_position(self):
        for reader in ALL:
            found = numbered(reader)
            order = values(reader, 60)
            for text in texts_with(reader[0], 4):
                self.assertEqual(order[value(found, text)], value(reader, text))
                self.assertIs(accepts(found, text), accepts(reader, text))

    def test_a_numbered_reader_is_its_own_numbered_reader(self):
        for reader in ALL:
            found = numbered(reader)
            self.assertEqual(numbered(found), found)
        self.assertEqual(numbered(PARITY), PARITY)
        self.assertEqual(numbered(DEPTH), DEPTH)

    def test_a_reader_with_all_60_values(self):
        reader = cyclic(60, [3, 59])
        self.assertEqual(numbered(reader), plain_numbered(*plain_tables(reader)))


if __name__ == "__main__":
    unittest.main()
