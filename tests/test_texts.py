import copy
import unittest

from archway.errors import InvalidPlace, TextTooLong, UnbalancedText
from archway.texts import arches, check_text, children_of, depths, fault_of, is_balanced, row_of
from tests.rows import nested, plain_arches, plain_fault, row, short_rows, short_texts


class FaultOf(unittest.TestCase):
    def check(self, words, fault):
        places = row(words)
        before = list(places)
        self.assertEqual(fault_of(places), fault)
        self.assertIs(is_balanced(places), fault is None)
        self.assertEqual(places, before)

    def test_the_empty_row_is_balanced(self):
        self.check("", None)

    def test_balanced_rows(self):
        self.check("l0", None)
        self.check("l0 l1 l2", None)
        self.check("c0 r0", None)
        self.check("c0 r0 c0 r0", None)
        self.check("c0 c1 l0 r2 r1 l0", None)

    def test_a_call_is_closed_by_a_return_with_any_label(self):
        self.check("c0 r2", None)
        self.check("c0 c1 r0 r1", None)

    def test_a_return_that_fits_no_call(self):
        self.check("r0", ("return", 0))
        self.check("l0 l0 r0", ("return", 2))
        self.check("c0 r0 r0", ("return", 2))
        self.check("r0 c0", ("return", 0))

    def test_the_first_return_that_fits_no_call_counts(self):
        self.check("l0 r0 r0", ("return", 1))
        self.check("c0 r0 l0 r1 c0 r0 r0", ("return", 3))

    def test_a_return_that_fits_no_call_counts_before_calls_open_at_the_end(self):
        self.check("r0 c0 c0", ("return", 0))
        self.check("c0 r0 r0 c0 c0", ("return", 2))
        self.check("l0 c0 r0 c1 r1 r2 c0", ("return", 5))

    def test_a_call_that_is_open_at_the_end(self):
        self.check("c0", ("call", 0))
        self.check("l0 c0 l0", ("call", 1))

    def test_the_first_call_that_is_still_open_counts(self):
        self.check("c0 c0 c0", ("call", 0))
        self.check("c0 c0 r0", ("call", 0))
        self.check("l0 c0 c0 r0 c0 r0", ("call", 1))

    def test_the_first_call_of_the_row_need_not_be_open(self):
        self.check("c0 r0 c0", ("call", 2))
        self.check("c0 l0 r0 l0 c1 c0 r0", ("call", 4))
        self.check("c0 r0 c0 r0 c0 c0 l0", ("call", 4))

    def test_every_short_row(self):
        for places in short_rows(7):
            before = list(places)
            self.assertEqual(fault_of(places), plain_fault(places), places)
            self.assertIs(is_balanced(places), plain_fault(places) is None, places)
            self.assertEqual(places, before)

    def test_long_rows(self):
        self.assertIsNone(fault_of(nested(100)))
        self.assertIsNone(fault_of(nested(120)))
        self.assertIs(is_balanced(nested(120)), True)
        self.assertEqual(fault_of(nested(120)[:-1]), ("call", 0))
        self.assertEqual(fault_of(nested(120) + row("r0")), ("return", 240))


class CheckText(unittest.TestCase):
    def lets_by(self, labels, places):
        before = list(places)
        self.assertIsNone(check_text(labels, places))
        self.assertEqual(places, before)

    def refuses_place(self, labels, places, number):
        before = list(places)
        with self.assertRaises(InvalidPlace) as caught:
            check_text(labels, places)
        self.assertEqual(caught.exception.number, number)
        self.assertEqual(places, before)

    def refuses_balance(self, labels, places, number):
        before = list(places)
        with self.assertRaises(UnbalancedText) as caught:
            check_text(labels, places)
        self.assertEqual(caught.exception.place, number)
        self.assertEqual(places, before)

    def refuses_length(self, labels, places):
        before = list(places)
        with self.assertRaises(TextTooLong):
            check_text(labels, places)
        self.assertEqual(places, before)

    def test_texts_are_let_by(self):
        self.lets_by((1, 1, 1), [])
        self.lets_by((1, 1, 1), row("l0 c0 l0 r0"))
        self.lets_by((3, 3, 3), row("c0 l0 c2 r1 l1 l2 r2 c1 r0"))

    def test_the_last_label_of_each_kind_is_let_by(self):
        for labels in ((1, 2, 3), (2, 3, 1), (3, 1, 2), (3, 3, 3), (1, 1, 1)):
            letter, call, back = [many - 1 for many in labels]
            self.lets_by(labels, row(f"l{letter} c{call} r{back}"))

    def test_labels_just_beyond_the_labels(self):
        for labels in ((1, 2, 3), (2, 3, 1), (3, 1, 2), (3, 3, 3), (1, 1, 1)):
            letters, calls, returns = labels
            self.refuses_place(labels, row(f"l0 c0 r0 l{letters}"), 3)
            self.refuses_place(labels, row(f"l0 c{calls} r0 l0"), 1)
            self.refuses_place(labels, row(f"l0 c0 r{returns} l0"), 2)

    def test_labels_below_zero(self):
        self.refuses_place((3, 3, 3), row("l-1"), 0)
        self.refuses_place((3, 3, 3), row("l0 c-1 r0"), 1)
        self.refuses_place((3, 3, 3), row("l0 c0 r-1"), 2)
        self.refuses_place((1, 2, 3), row("c0 l0 r-3"), 2)

    def test_labels_of_marked_texts(self):
        self.lets_by((24, 24, 24), row("l23 c23 r23"))
        self.lets_by((8, 16, 24), row("l7 c15 r23"))
        self.refuses_place((24, 24, 24), row("l0 l24"), 1)
        self.refuses_place((8, 16, 24), row("l7 c16 r23"), 1)
        self.refuses_place((8, 16, 24), row("l8 c15 r23"), 0)

    def test_the_first_place_without_a_label_counts(self):
        self.refuses_place((1, 1, 1), row("l0 l1 l2 l-1"), 1)
        self.refuses_place((1, 1, 2), row("l0 c0 r1 c1 r2 l1"), 3)

    def test_rows_that_are_not_balanced(self):
        self.refuses_balance((1, 1, 1), row("r0"), 0)
        self.refuses_balance((1, 1, 1), row("l0 c0 r0 r0 c0"), 3)
        self.refuses_balance((1, 1, 1), row("c0"), 0)
        self.refuses_balance((1, 1, 1), row("c0 r0 l0 c0 c0 r0"), 3)

    def test_rows_of_200_places_are_let_by(self):
        self.lets_by((1, 1, 1), row("l0") * 199)
        self.lets_by((1, 1, 1), row("l0") * 200)
        self.lets_by((1, 1, 1), nested(100))
        self.lets_by((1, 1, 1), row("c0 r0") * 100)

    def test_rows_of_more_than_200_places(self):
        self.refuses_length((1, 1, 1), row("l0") * 201)
        self.refuses_length((1, 1, 1), row("l0") + nested(100))
        self.refuses_length((1, 1, 1), nested(101))
        self.refuses_length((3, 3, 3), row("l2") * 300)

    def test_labels_are_checked_before_the_balance(self):
        self.refuses_place((1, 1, 1), row("r0 c0 l1"), 2)
        self.refuses_place((1, 1, 1), row("c1"), 0)
        self.refuses_place((1, 1, 1), row("c0 c0 r1 r0 r0"), 2)

    def test_labels_are_checked_before_the_length(self):
        self.refuses_place((1, 1, 1), row("l0") * 200 + row("l1"), 200)
        self.refuses_place((1, 1, 1), row("l0") * 230 + row("c0 r-1"), 231)

    def test_the_balance_is_checked_before_the_length(self):
        self.refuses_balance((1, 1, 1), row("l0") * 201 + row("r0"), 201)
        self.refuses_balance((1, 1, 1), row("c0") * 201, 0)

    def test_all_three_faults_at_once(self):
        self.refuses_place((1, 1, 1), row("r0") + row("l0") * 210 + row("c1"), 211)


class Arches(unittest.TestCase):
    def check(self, words, wanted_arches, wanted_depths):
        text = row(words)
        before = list(text)
        self.assertEqual(arches(text), wanted_arches)
        self.assertEqual(depths(text), wanted_depths)
        self.assertEqual(text, before)

    def test_the_empty_text(self):
        self.check("", [], [])

    def test_letters_alone(self):
        self.check("l0 l1 l0", [], [0, 0, 0])

    def test_one_arch(self):
        self.check("c0 r0", [(0, 1)], [0, 0])
        self.check("l0 c1 l0 l0 r2 l0", [(1, 4)], [0, 0, 1, 1, 0, 0])

    def test_nested_arches_are_in_ascending_order_of_their_calls(self):
        self.check("c0 c0 r0 r0", [(0, 3), (1, 2)], [0, 1, 1, 0])
        self.check("c0 c0 c0 l0 r0 r0 r0", [(0, 6), (1, 5), (2, 4)], [0, 1, 2, 3, 2, 1, 0])

    def test_arches_side_by_side(self):
        self.check("c0 r0 c0 r0", [(0, 1), (2, 3)], [0, 0, 0, 0])
        self.check("c0 l0 r0 l0 c0 l0 r0", [(0, 2), (4, 6)], [0, 1, 0, 0, 0, 1, 0])

    def test_arches_side_by_side_inside_an_arch(self):
        self.check(
            "l0 c0 c0 r0 l0 c0 l0 r0 r0 c0 r0",
            [(1, 8), (2, 3), (5, 7), (9, 10)],
            [0, 0, 1, 1, 1, 1, 2, 1, 0, 0, 0],
        )

    def test_every_short_text(self):
        for text in short_texts(8):
            before = list(text)
            pairs = plain_arches(text)
            around = [
                len([1 for call, back in pairs if call < number < back])
                for number in range(len(text))
            ]
            self.assertEqual(arches(text), pairs, text)
            self.assertEqual(depths(text), around, text)
            self.assertEqual(text, before)

    def test_a_text_as_deep_as_can_be(self):
        self.assertEqual(arches(nested(100)), [(number, 199 - number) for number in range(100)])
        self.assertEqual(depths(nested(100)), list(range(100)) + list(range(99, -1, -1)))

    def test_returned_lists_are_new(self):
        for text in ([], row("l0"), row("c0 r0")):
            for function in (arches, depths):
                wanted = list(function(text))
                function(text).append("more")
                self.assertEqual(function(text), wanted)


class Children(unittest.TestCase):
    def check(self, words, children):
        text = row(words)
        before = list(text)
        self.assertEqual(children_of(text), children)
        self.assertEqual(text, before)
        given = copy.deepcopy(children)
        self.assertEqual(row_of(given), text)
        self.assertEqual(given, children)

    def test_the_empty_text(self):
        self.check("", [])

    def test_letters_alone(self):
        self.check("l0 l2 l1", [("letter", 0), ("letter", 2), ("letter", 1)])

    def test_an_empty_arch(self):
        self.check("c0 r0", [("arch", 0, 0, [])])

    def test_the_label_of_the_call_stands_before_that_of_the_return(self):
        self.check("c1 r2", [("arch", 1, 2, [])])
        self.check("c2 c0 r1 r0", [("arch", 2, 0, [("arch", 0, 1, [])])])

    def test_arches_side_by_side(self):
        self.check(
            "c0 l0 r1 l2 c1 r0",
            [("arch", 0, 1, [("letter", 0)]), ("letter", 2), ("arch", 1, 0, [])],
        )

    def test_nested_arches(self):
        inner = ("arch", 1, 0, [("letter", 2)])
        outer = ("arch", 0, 2, [("letter", 0), inner, ("arch", 2, 1, []), ("letter", 1)])
        self.check("l1 c0 l0 c1 l2 r0 c2 r1 l1 r2 l0", [("letter", 1), outer, ("letter", 0)])

    def test_letters_of_an_arch_are_not_children_of_the_text(self):
        self.check("c0 l0 l1 r0", [("arch", 0, 0, [("letter", 0), ("letter", 1)])])

    def test_every_short_text_is_given_back(self):
        for text in short_texts(8):
            children = children_of(text)
            self.assertEqual(row_of(children), text)
            self.assertEqual(children, self.plain_children(text), text)

    def plain_children(self, text):
        closed = dict(plain_arches(text))
        found = []
        at = 0
        while at < len(text):
            if at in closed:
                back = closed[at]
                inside = self.plain_children(text[at + 1:back])
                found.append(("arch", text[at][1], text[back][1], inside))
                at = back
            else:
                found.append(text[at])
            at += 1
        return found

    def test_a_text_as_deep_as_can_be(self):
        children = children_of(nested(100))
        part = children
        for _ in range(100):
            self.assertEqual((len(part), part[0][:3]), (1, ("arch", 0, 0)))
            part = part[0][3]
        self.assertEqual(part, [])
        self.assertEqual(row_of(children), nested(100))

    def test_a_text_as_wide_as_can_be(self):
        text = row("c0 r0") * 100
        self.assertEqual(children_of(text), [("arch", 0, 0, [])] * 100)
        self.assertEqual(row_of(children_of(text)), text)

    def test_returned_lists_are_new(self):
        for text in ([], row("l0 l0"), row("c0 r0"), row("c0 l0 r0")):
            before = list(text)
            wanted = copy.deepcopy(children_of(text))
            changed = children_of(text)
            for child in changed:
                if child[0] == "arch":
                    child[3].append(("letter", 2))
            changed.append(("letter", 1))
            self.assertEqual(children_of(text), wanted)
            self.assertEqual(text, before)

    def test_the_returned_row_is_new(self):
        for children in ([], [("letter", 0)], [("arch", 0, 0, [])]):
            before = copy.deepcopy(children)
            wanted = list(row_of(children))
            row_of(children).append(("letter", 1))
            self.assertEqual(children, before)
            self.assertEqual(row_of(children), wanted)


if __name__ == "__main__":
    unittest.main()
