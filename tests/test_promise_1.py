"""Promise 1: begin and gate."""

import unittest

from tests.helper import AND, NEITHER, OR, TOP, ask, begin, explains, gate, last, seen, test

EIGHT_GATES = [gate(AND, 0, 1)] * 8


class Begin(unittest.TestCase):
    def test_number_of_inputs(self):
        for inputs, answer in [(0, -22), (1, 0), (2, 0), (3, 0), (4, 0), (5, -22), (TOP, -22)]:
            with self.subTest(inputs=inputs):
                self.assertEqual(ask(begin(inputs)), [answer])

    def test_refused_ones_alone(self):
        self.assertEqual(ask(begin(0), begin(5), begin(TOP)), [-22, -22, -22])

    def test_refused_ones_ahead_of_the_first_that_is_not(self):
        self.assertEqual(ask(begin(5), begin(0), begin(2), gate(AND, 0, 1), gate(AND, 0, 3)), [-22, -22, 0, 0, -22])

    def test_as_many_inputs_as_told(self):
        for inputs in (1, 2, 3, 4):
            with self.subTest(inputs=inputs):
                self.assertEqual(
                    ask(begin(inputs), gate(AND, inputs - 1, 0), begin(inputs), gate(AND, inputs, 0)), [0, 0, 0, -22]
                )


class BeginAgain(unittest.TestCase):
    before = [begin(2), gate(AND, 0, 1), gate(OR, 0, 2), test(3), test(0), seen(0, 0, 0), seen(1, 1, 1)]

    def after(self, *calls):
        return ask(*self.before, *calls)[len(self.before):]

    def test_leaves_no_gates(self):
        self.assertEqual(self.after(begin(2), explains(1), gate(AND, 0, 2), gate(AND, 0, 1)), [0, -22, -22, 0])

    def test_leaves_no_tests(self):
        self.assertEqual(
            self.after(begin(2), gate(AND, 0, 0), seen(0, 0, 0), explains(0), test(0), seen(0, 0, 0)),
            [0, 0, -2, 1, 0, 0],
        )

    def test_takes_the_new_number_of_inputs(self):
        self.assertEqual(self.after(begin(1), test(2), test(1)), [0, -22, 0])
        self.assertEqual(self.after(begin(4), test(16), test(15)), [0, -22, 0])

    def test_all_gates_and_tests_may_come_anew(self):
        full = [begin(2), *EIGHT_GATES, *[test(0)] * 6]
        self.assertEqual(ask(*full, *full), [0, *range(8), *range(6)] * 2)

    def test_refused_changes_nothing(self):
        for inputs in (0, 5, TOP):
            with self.subTest(inputs=inputs):
                self.assertEqual(
                    self.after(begin(inputs), gate(AND, 3, 3), gate(AND, 4, 0), explains(0), explains(1), explains(2),
                               explains(3), explains(4), seen(0, 0, 0), seen(1, 1, 0), seen(2, 0, 0), test(4), test(3)),
                    [-22, -16, -22, 0, 1, 0, 1, -22, -17, -17, -2, -22, 2],
                )

    def test_refused_with_gates_alone_changes_nothing(self):
        self.assertEqual(ask(begin(3), gate(AND, 0, 1), begin(0), gate(AND, 3, 2), begin(5), gate(AND, 4, 2)),
                         [0, 0, -22, 1, -22, 2])


class GateKinds(unittest.TestCase):
    def test_kinds(self):
        for kind, answer in [(0, 0), (1, 0), (2, 0), (3, 0), (4, 0), (5, -22), (6, -22), (TOP, -22)]:
            with self.subTest(kind=kind):
                self.assertEqual(last(begin(2), gate(kind, 0, 1)), answer)


class GateWires(unittest.TestCase):
    def test_numbers_from_zero_as_they_come(self):
        self.assertEqual(ask(begin(1), *[gate(k % 5, 0, k) for k in range(8)]), [0, *range(8)])

    def test_wire_of_no_input(self):
        for inputs in (1, 2, 3, 4):
            for wire in (inputs, inputs + 1, TOP):
                with self.subTest(inputs=inputs, wire=wire):
                    self.assertEqual(last(begin(inputs), gate(AND, wire, 0)), -22)
                    self.assertEqual(last(begin(inputs), gate(AND, 0, wire)), -22)
                    self.assertEqual(last(begin(inputs), gate(AND, wire, wire)), -22)

    def test_own_wire_and_later_ones_are_not_there_yet(self):
        ahead = [begin(3), gate(AND, 0, 1), gate(AND, 1, 2)]
        for wire, answer in [(4, 2), (5, -22), (6, -22)]:
            with self.subTest(wire=wire):
                self.assertEqual(last(*ahead, gate(OR, wire, 0)), answer)
                self.assertEqual(last(*ahead, gate(OR, 0, wire)), answer)

    def test_same_wire_twice(self):
        self.assertEqual(ask(begin(1), gate(NEITHER, 0, 0), gate(NEITHER, 1, 1)), [0, 0, 1])

    def test_refused_changes_nothing(self):
        self.assertEqual(
            ask(begin(1), gate(5, 0, 0), gate(AND, 1, 0), gate(AND, 0, 1), explains(1), gate(AND, 0, 0),
                gate(AND, 0, 2), explains(1), explains(2), gate(AND, 0, 1)),
            [0, -22, -22, -22, -22, 0, -22, 1, -22, 1],
        )


class GateRefusals(unittest.TestCase):
    def test_when_there_is_a_test(self):
        self.assertEqual(ask(begin(2), test(0), gate(AND, 0, 1)), [0, 0, -16])
        self.assertEqual(
            ask(begin(2), gate(AND, 0, 1), test(0), gate(AND, 0, 2), seen(0, 1, 0), explains(2)), [0, 0, 0, -16, -22, -22]
        )

    def test_a_refused_test_is_none(self):
        self.assertEqual(ask(begin(2), test(4), gate(AND, 0, 1)), [0, -22, 0])

    def test_ninth(self):
        self.assertEqual(
            ask(begin(2), *EIGHT_GATES, gate(AND, 0, 1), explains(255), explains(256), gate(OR, 9, 9)),
            [0, *range(8), -28, 1, -22, -28],
        )

    def test_ninth_takes_no_wire_that_is_not_there(self):
        self.assertEqual(last(begin(2), *EIGHT_GATES, gate(AND, 0, 10)), -22)

    def test_first_named_is_answered(self):
        with_test = [begin(2), gate(AND, 0, 1), test(0)]
        with_eight = [begin(2), *EIGHT_GATES]
        with_both = [*with_eight, test(0)]
        for ahead in (with_test, with_eight, with_both):
            for wrong in (gate(5, 0, 0), gate(AND, 10, 0), gate(AND, 0, 10), gate(TOP, TOP, TOP)):
                with self.subTest(ahead=ahead, wrong=wrong):
                    self.assertEqual(last(*ahead, wrong), -22)
        self.assertEqual(last(*with_both, gate(AND, 0, 1)), -16)
