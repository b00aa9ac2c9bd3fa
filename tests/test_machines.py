import unittest

from archway.errors import TooManySteps, TooManyValues
from archway.machines import (
    configurations, is_deterministic, machine_for, machine_reader, table_of, takes,
)
from archway.readers import accepts, fault, value
from archway.shortest import parting
from tests.plain import plain_list, plain_value, texts_with
from tests.plain_machines import (
    plain_configurations, plain_machine, plain_machine_reader, plain_machine_tables, plain_pairs, plain_table,
    plain_takes, some_machines,
)
from tests.rows import nested, row, short_rows
from tests.samples import DEPTH, FLIPS, NOTHING, ONE_VALUE, PARITY, RESETS, SHIFTS, SMALL, TURNS, cyclic

# Takes the texts in which no arch lies in another one and the arches side by side are c0 r0.
ONCE = (2, (0,), ((0, 0, 0), (1, 0, 1)), ((0, 0, 1, 0),), ((1, 0, 0, 0),), (0,))

# At each call there is a choice of two signs, of which the return asks for one.
CHOICE = (1, (0,), ((0, 0, 0),), ((0, 0, 0, 0), (0, 0, 0, 1)), ((0, 0, 0, 0), (0, 1, 1, 0)), (0,))

# A letter turns 3, 4 and 5 states around, so that its tables repeat after 60 letters.
TURNING = tuple((p, 0, first + (p - first + 1) % many) for first, many in ((0, 3), (3, 4), (7, 5))
                for p in range(first, first + many))
# An arch has the table of what is inside of it, or no table leads anywhere.
PASSED = tuple((p, 0, p, 0) for p in range(12)), tuple((p, 0, 0, p) for p in range(12))
SIXTY = (12, (0, 3, 7), TURNING, *PASSED, (1, 4, 8))
SIXTY_ONE = (12, (0, 3, 7), TURNING, (), (), (1, 4, 8))


class Configurations(unittest.TestCase):
    def check(self, machine, places, wanted):
        before = repr((machine, places))
        found = configurations(machine, places)
        self.assertEqual(found, wanted)
        self.assertEqual(repr((machine, places)), before)
        self.assertEqual(plain_configurations(machine, places), wanted)

    def test_the_empty_row(self):
        self.check(ONCE, [], [[(0, ())]])
        self.check((3, (0, 2), (), (), (), ()), [], [[(0, ()), (2, ())]])
        self.check((3, (), (), (), (), ()), [], [[]])

    def test_a_text(self):
        self.check(
            ONCE, row("l0 c0 l0 r0"), [[(0, ())], [(0, ())], [(1, (0,))], [(1, (0,))], [(0, ())]],
        )

    def test_no_step(self):
        self.check(ONCE, row("c0 c0 r0 r0"), [[(0, ())], [(1, (0,))], [], [], []])
        self.check(ONCE, row("l1 l0"), [[(0, ())], [], []])
        self.check((1, (), ((0, 0, 0),), (), (), (0,)), row("l0"), [[], []])

    def test_rows_that_are_not_balanced(self):
        self.check(ONCE, row("c0 l0"), [[(0, ())], [(1, (0,))], [(1, (0,))]])
        self.check(ONCE, row("r0"), [[(0, ())], []])
        self.check(ONCE, row("r0 l0 c0"), [[(0, ())], [], [], []])
        self.check(ONCE, row("c0 r0 r0 l0"), [[(0, ())], [(1, (0,))], [(0, ())], [], []])
        popped = (1, (0,), ((0, 0, 0),), ((0, 0, 0, 0),), ((0, 0, 0, 0),), (0,))
        self.check(popped, row("c0 r0 r0 l0 c0"), [[(0, ())], [(0, (0,))], [(0, ())], [], [], []])

    def test_several_choices(self):
        self.check(
            CHOICE, row("c0 c0 r0 r1"),
            [
                [(0, ())], [(0, (0,)), (0, (1,))], [(0, (0, 0)), (0, (0, 1)), (0, (1, 0)), (0, (1, 1))],
                [(0, (0,)), (0, (1,))], [(0, ())],
            ],
        )
        several = (3, (0, 1), ((0, 0, 2), (0, 0, 0), (1, 0, 0), (1, 0, 1)), (), (), ())
        every = [(0, ()), (1, ()), (2, ())]
        self.check(several, row("l0 l0"), [[(0, ()), (1, ())], every, every])

    def test_the_top_of_the_stack_is_last(self):
        machine = (2, (0,), (), ((0, 0, 0, 5), (0, 1, 0, 3)), ((0, 3, 0, 1), (1, 5, 0, 0), (0, 5, 0, 0)), (0,))
        self.check(
            machine, row("c0 c1 r0 r0"), [[(0, ())], [(0, (5,))], [(0, (5, 3))], [(1, (5,))], [(0, ())]],
        )
        self.check(machine, row("c1 c0 r0 r0"), [[(0, ())], [(0, (3,))], [(0, (3, 5))], [(0, (3,))], [(1, ())]])

    def test_ascending_order(self):
        machine = (2, (0, 1), (), ((0, 0, 1, 2), (0, 0, 1, 0), (1, 0, 0, 10), (1, 0, 0, 9)), (), ())
        self.check(machine, row("c0"), [[(0, ()), (1, ())], [(0, (9,)), (0, (10,)), (1, (0,)), (1, (2,))]])

    def test_steps_that_stand_twice(self):
        machine = (
            2, (0,), ((0, 0, 1), (0, 0, 1)), ((1, 0, 0, 3), (1, 0, 0, 3)), ((0, 3, 0, 1), (0, 3, 0, 1)), (1,),
        )
        self.check(machine, row("l0 c0 r0"), [[(0, ())], [(1, ())], [(0, (3,))], [(1, ())]])

    def test_many_machines(self):
        rows = short_rows(4) + [row("c0 l1 r1"), row("c0 c0 l0 r1 r0 l1"), row("l1 c0 r1 c0 r0 r1")]
        for machine in some_machines(60, seed=1):
            for places in rows:
                self.check(machine, places, plain_configurations(machine, places))

    def test_many_configurations(self):
        found = configurations(CHOICE, row("c0 " * 14))
        self.assertEqual([len(one) for one in found], [2 ** many for many in range(15)])
        self.assertEqual(found[-1][5], (0, (0,) * 11 + (1, 0, 1)))

    def test_long_rows(self):
        found = configurations(ONCE, row("c0 l0 r0 " * 1000))
        self.assertEqual((len(found), found[-1]), (3001, [(0, ())]))
        deep = configurations((1, (0,), (), ((0, 0, 0, 1),), (), ()), row("c0 " * 1000))
        self.assertEqual(deep[-1], [(0, (1,) * 1000)])


class Takes(unittest.TestCase):
    def check(self, machine, words, wanted):
        text = row(words)
        self.assertIs(takes(machine, text), wanted)
        self.assertIs(plain_takes(machine, text), wanted)
        self.assertEqual(text, row(words))

    def test_the_examples(self):
        self.check(ONCE, "c0 r0 c0 r0", True)
        self.check(ONCE, "c0 c0 r0 r0", False)

    def test_first_and_last_states(self):
        for firsts, lasts, wanted in (((0,), (0,), True), ((0,), (1,), False), ((0, 1), (1,), True),
                                      ((), (0, 1), False), ((0, 1), (), False)):
            self.check((2, firsts, (), (), (), lasts), "", wanted)
        self.check((2, (0,), ((0, 0, 1),), (), (), (1,)), "l0", True)
        self.check((2, (0,), ((0, 0, 1),), (), (), (0,)), "l0", False)
        self.check((2, (1,), ((0, 0, 1),), (), (), (1,)), "l0", False)

    def test_choices(self):
        self.check(CHOICE, "c0 r0 c0 r1", True)
        self.check(CHOICE, "c0 c0 r1 r0", True)
        # The signs of the call and of the return are one sign.
        lone = (1, (0,), (), ((0, 0, 0, 0),), ((0, 1, 0, 0),), (0,))
        self.check(lone, "c0 r0", False)
        self.check(CHOICE[:4] + (((0, 0, 0, 0),), (0,)), "c0 r1", False)

    def test_labels_without_steps(self):
        self.check(ONCE, "l0 l1", False)
        self.check(ONCE, "c1 r0", False)
        self.check(ONCE, "c0 r1", False)

    def test_many_machines(self):
        texts = texts_with((1, 1, 1), 4) + texts_with((2, 1, 2), 3)
        for machine in some_machines(80, seed=2):
            for text in texts:
                self.assertIs(takes(machine, text), plain_takes(machine, text), (machine, text))

    def test_more_configurations_than_can_be_listed(self):
        deep = [("call", 0)] * 100 + [("return", 0), ("return", 1)] * 50
        self.assertIs(takes(CHOICE, deep), True)
        self.assertIs(takes(CHOICE, deep[:-1] + [("return", 2)]), False)
        self.assertIs(takes(CHOICE, nested(5000)), True)
        # A state is chosen at each call, and its number is asked for at the return.
        states = range(20)
        wide = (
            21, (0,), (), tuple((p, 0, q, q) for p in states for q in states),
            tuple((p, q, q % 3, q) for p in states for q in states if p != q + 1), (19,),
        )
        self.assertIs(takes(wide, nested(60)), False)
        self.assertIs(takes(wide, [("call", 0)] * 60 + [("return", 0)] * 59 + [("return", 1)]), True)

    def test_long_texts(self):
        self.assertIs(takes(ONCE, row("c0 l0 r0 " * 3000)), True)
        self.assertIs(takes(ONCE, row("c0 l0 r0 " * 3000 + "c0 c0 r0 r0")), False)


class Tables(unittest.TestCase):
    def check(self, machine, words, wanted):
        self.assertEqual(table_of(machine, row(words)), wanted)
        self.assertEqual(plain_table(machine, plain_pairs(machine, row(words))), wanted)

    def test_the_empty_stretch(self):
        self.check(ONCE, "", ((0,), (1,)))
        self.check((3, (), (), (), (), ()), "", ((0,), (1,), (2,)))

    def test_letters(self):
        machine = (3, (), ((0, 1, 2), (0, 1, 0), (2, 1, 1), (1, 0, 1)), (), (), ())
        self.check(machine, "l1", ((0, 2), (), (1,)))
        self.check(machine, "l0", ((), (1,), ()))
        self.check(machine, "l2", ((), (), ()))

    def test_stretches_one_behind_the_other(self):
        machine = (3, (), ((0, 1, 2), (0, 1, 0), (2, 1, 1), (1, 0, 1)), (), (), ())
        self.check(machine, "l1 l1", ((0, 1, 2), (), ()))
        self.check(machine, "l1 l0", ((), (), (1,)))
        self.check(machine, "l0 l1", ((), (), ()))
        self.check(machine, "l1 l1 l1", ((0, 1, 2), (), ()))

    def test_arches(self):
        self.check(ONCE, "c0 r0", ((0,), ()))
        self.check(ONCE, "c0 l0 r0", ((0,), ()))
        self.check(ONCE, "c0 c0 r0 r0", ((), ()))
        machine = (
            3, (), ((1, 0, 2), (2, 0, 2)), ((0, 0, 1, 7), (0, 0, 2, 8), (2, 1, 1, 8)),
            ((2, 7, 0, 0), (2, 8, 0, 1), (1, 8, 0, 2), (2, 7, 1, 2)), (),
        )
        self.check(machine, "c0 l0 r0", ((0, 1), (), ()))
        self.check(machine, "c0 r0", ((1,), (), ()))
        self.check(machine, "c1 r0", ((), (), (2,)))
        self.check(machine, "c0 l0 r1", ((2,), (), ()))
        self.check(machine, "c1 l0 r1", ((), (), ()))

    def test_many_machines(self):
        for machine in some_machines(80, seed=3, signs=3):
            for text in texts_with((1, 1, 1), 4) + texts_with((2, 1, 2), 3):
                self.assertEqual(table_of(machine, text), plain_table(machine, plain_pairs(machine, text)))

    def test_many_states(self):
        self.assertEqual(table_of(SIXTY, row("l0 " * 60)), tuple((p,) for p in range(12)))
        self.assertEqual(table_of(SIXTY, nested(1000)), tuple((p,) for p in range(12)))
        self.assertEqual(table_of((60, (), ((59, 0, 0), (59, 0, 59)), (), (), ()), row("l0"))[58:], ((), (0, 59)))


class Readers(unittest.TestCase):
    def check(self, labels, machine, most=4):
        before = repr(machine)
        found = machine_reader(labels, machine)
        self.assertIsNone(fault(found))
        self.assertEqual(found, plain_machine_reader(labels, machine))
        self.assertEqual(repr(machine), before)
        for text in texts_with(labels, most):
            self.assertIs(accepts(found, text), takes(machine, text), (machine, text))
            self.assertIs(accepts(found, text), plain_takes(machine, text), (machine, text))
        return found

    def test_small_machines(self):
        self.assertEqual(
            self.check((1, 1, 1), ONCE),
            (
                (1, 1, 1), 0, (0,), ((0, 1, 2), (1, 1, 2), (2, 2, 2)), (((1, 2, 2),),), (0, 1),
            ),
        )
        self.check((2, 2, 2), ONCE, 3)
        self.check((1, 1, 2), CHOICE)
        self.check((2, 1, 2), CHOICE, 3)

    def test_labels_without_steps(self):
        found = self.check((1, 1, 1), (1, (0,), (), (), (), (0,)))
        self.assertEqual(found, ((1, 1, 1), 0, (1,), ((0, 1), (1, 1)), (((1, 1),),), (0,)))

    def test_steps_with_other_labels(self):
        machine = (1, (0,), ((0, 0, 0), (0, 5, 0)), ((0, 3, 0, 0),), ((0, 0, 4, 0),), (0,))
        self.check((1, 1, 1), machine)
        self.check((1, 4, 5), machine, 3)

    def test_no_first_or_no_last_state(self):
        self.assertEqual(self.check((1, 1, 1), ONCE[:1] + ((),) + ONCE[2:])[5], ())
        self.assertEqual(self.check((1, 1, 1), ONCE[:5] + ((),))[5], ())

    def test_many_machines(self):
        tried = 0
        for labels, seed, states in (((1, 1, 1), 4, 2), ((2, 1, 2), 5, 2), ((1, 1, 1), 6, 3)):
            for machine in some_machines(40, seed=seed, states=states):
                if plain_list(*plain_machine_tables(labels, machine)[:-1], 60) is None:
                    with self.assertRaises(TooManyValues):
                        machine_reader(labels, machine)
                else:
                    self.check(labels, machine, 3)
                    tried += 1
        self.assertGreater(tried, 80)

    def test_sixty_values_and_one_more(self):
        found = self.check((1, 1, 1), SIXTY)
        self.assertEqual(len(found[3]), 60)
        with self.assertRaises(TooManyValues):
            machine_reader((1, 1, 1), SIXTY_ONE)

    def test_the_most_labels_and_states(self):
        steps = tuple((p, a, 59 - p) for p in range(60) for a in range(24))
        calls, returns = [(0, a, 1, a) for a in range(24)], [(1, a, a, 0) for a in range(24)]
        machine = (60, (0,), steps, tuple(calls), tuple(returns), (0,))
        found = machine_reader((24, 24, 24), machine)
        self.assertIsNone(fault(found))
        self.assertEqual(found[0], (24, 24, 24))
        self.assertIs(accepts(found, row("c23 r23 c0 l5 l7 r0 l0 l1")), True)
        self.assertIs(accepts(found, row("c23 r22")), False)


class OfReaders(unittest.TestCase):
    def test_exact(self):
        self.assertEqual(
            machine_for(PARITY),
            (
                2, (0,), ((0, 0, 1), (1, 0, 0)), ((0, 0, 0, 0), (1, 0, 0, 1)),
                ((0, 0, 0, 0), (1, 0, 0, 1), (0, 1, 0, 1), (1, 1, 0, 0)), (0,),
            ),
        )
        self.assertEqual(
            machine_for(((1, 2, 1), 1, (0,), ((0, 0), (0, 1)), (((0, 1),), ((0, 0),)), ())),
            (
                2, (1,), ((0, 0, 0), (1, 0, 0)), ((0, 0, 1, 0), (0, 1, 1, 1), (1, 0, 1, 2), (1, 1, 1, 3)),
                (
                    (0, 0, 0, 0), (1, 0, 0, 0), (0, 1, 0, 0), (1, 1, 0, 0),
                    (0, 2, 0, 0), (1, 2, 0, 1), (0, 3, 0, 0), (1, 3, 0, 0),
                ),
                (),
            ),
        )

    def test_small_readers(self):
        for reader in SMALL + (TURNS, SHIFTS, cyclic(3, [0, 2], (2, 3, 2)), cyclic(1, [0], (24, 1, 24))):
            before = repr(reader)
            found = machine_for(reader)
            self.assertEqual(found, plain_machine(reader))
            self.assertIs(is_deterministic(found), True)
            self.assertEqual(repr(reader), before)

    def test_the_same_texts(self):
        for reader in SMALL:
            machine = machine_for(reader)
            for text in texts_with(reader[0], 4 if reader[0] == (1, 1, 1) else 3):
                self.assertIs(takes(machine, text), accepts(reader, text), (reader, text))
                state = [(plain_value(reader, text), ())]
                self.assertEqual(configurations(machine, text)[-1], state)

    def test_and_back(self):
        for reader in (PARITY, DEPTH, ONE_VALUE, NOTHING, RESETS, FLIPS, TURNS, SHIFTS):
            again = machine_reader(reader[0], machine_for(reader))
            self.assertIsNone(fault(again))
            self.assertIsNone(parting(reader, again))
        again = machine_reader((1, 1, 1), machine_for(cyclic(60, [0, 7])))
        self.assertEqual(again, cyclic(60, [0, 7]))

    def test_from_machine_to_machine(self):
        for machine in some_machines(40, seed=9, states=2):
            labels = (2, 1, 2)
            other = machine_for(machine_reader(labels, machine))
            self.assertIs(is_deterministic(other), True)
            for text in texts_with(labels, 3):
                self.assertIs(takes(other, text), takes(machine, text))

    def test_4000_steps_and_more(self):
        reader = cyclic(20, [3], (19, 1, 9))
        found = machine_for(reader)
        self.assertEqual(len(found[2]) + len(found[3]) + len(found[4]), 4000)
        self.assertEqual(found, plain_machine(reader))
        self.assertEqual(configurations(found, row("l2 c0 l1 r3"))[-1], [(value(reader, row("l2 c0 l1 r3")), ())])
        # The first of these has 4002 steps; none of its kinds has more than 4000 alone.
        for labels, count in (((12, 1, 7), 23), ((20, 1, 9), 20), ((24, 24, 24), 60)):
            with self.assertRaises(TooManySteps):
                machine_for(cyclic(count, [0], labels))


class Deterministic(unittest.TestCase):
    def check(self, machine, wanted):
        self.assertIs(is_deterministic(machine), wanted)

    def test_deterministic_machines(self):
        self.check(ONCE, True)
        self.check((1, (), (), (), (), ()), True)
        self.check((2, (1,), (), (), (), (0, 1)), True)
        self.check((2, (0,), ((0, 0, 1), (0, 1, 1), (1, 0, 1)), (), (), ()), True)
        self.check((2, (0,), (), ((0, 0, 1, 0), (0, 1, 1, 0), (1, 0, 1, 0)), (), ()), True)
        self.check((2, (0,), (), (), ((0, 0, 0, 1), (1, 0, 0, 1), (0, 1, 0, 1), (0, 0, 1, 1)), ()), True)
        # The kinds have steps of their own.
        self.check((1, (0,), ((0, 0, 0),), ((0, 0, 0, 0),), ((0, 0, 0, 0),), (0,)), True)

    def test_several_first_states(self):
        self.check((2, (0, 1), (), (), (), ()), False)

    def test_letters(self):
        self.check((2, (0,), ((0, 1, 0), (1, 1, 0), (0, 1, 1)), (), (), ()), False)

    def test_calls(self):
        self.check((2, (0,), (), ((0, 1, 0, 0), (0, 1, 1, 0)), (), ()), False)
        self.check((2, (0,), (), ((0, 1, 0, 0), (0, 1, 0, 1)), (), ()), False)

    def test_returns(self):
        self.check((2, (0,), (), (), ((1, 3, 2, 0), (1, 3, 2, 1)), ()), False)

    def test_steps_that_stand_twice(self):
        # Two steps of the tuple agree, even if they lead to the same.
        self.check((1, (0,), ((0, 0, 0), (0, 0, 0)), (), (), ()), False)
        self.check((1, (0,), (), ((0, 0, 0, 0), (0, 0, 0, 0)), (), ()), False)
        self.check((1, (0,), (), (), ((0, 0, 0, 0), (0, 0, 0, 0)), ()), False)

    def test_choices(self):
        self.check(CHOICE, False)


if __name__ == "__main__":
    unittest.main()
