"""Promise 2: test and seen."""

import unittest

from tests.helper import AND, NEITHER, OR, TOP, ask, begin, explains, gate, last, seen, test


class Tests(unittest.TestCase):
    def test_bits_of_inputs(self):
        for inputs in (1, 2, 3, 4):
            for bits in range(2 ** inputs):
                with self.subTest(inputs=inputs, bits=bits):
                    self.assertEqual(last(begin(inputs), test(bits)), 0)

    def test_a_bit_of_no_input(self):
        for inputs in (1, 2, 3, 4):
            for bits in (2 ** inputs, 2 ** inputs + 1, 2 ** (inputs + 1) - 1, 2 ** 31, TOP):
                with self.subTest(inputs=inputs, bits=bits):
                    self.assertEqual(last(begin(inputs), test(bits)), -22)

    def test_a_bit_of_a_gates_wire_is_of_no_input(self):
        self.assertEqual(last(begin(2), gate(AND, 0, 1), test(4)), -22)

    def test_numbers_and_the_seventh(self):
        self.assertEqual(ask(begin(1), *[test(1)] * 7), [0, 0, 1, 2, 3, 4, 5, -28])

    def test_the_seventh_changes_nothing(self):
        self.assertEqual(
            ask(begin(1), gate(AND, 0, 0), *[test(1)] * 7, seen(5, 0, 1), seen(6, 0, 1), test(0), explains(0)),
            [0, 0, 0, 1, 2, 3, 4, 5, -28, 0, -2, -28, 1],
        )

    def test_first_named_is_answered(self):
        self.assertEqual(last(begin(2), *[test(1)] * 6, test(4)), -22)
        self.assertEqual(last(begin(2), *[test(1)] * 6, test(TOP)), -22)

    def test_refused_changes_nothing(self):
        self.assertEqual(
            ask(begin(2), gate(OR, 0, 1), test(4), seen(0, 0, 0), gate(AND, 0, 0), test(3), test(5), seen(1, 0, 0), test(0)),
            [0, 0, -22, -2, 1, 0, -22, -2, 1],
        )

    def test_nothing_is_measured_in_a_new_one(self):
        self.assertEqual(
            ask(begin(1), gate(AND, 0, 0), test(0), seen(0, 0, 1), test(0), seen(1, 0, 0), test(0), seen(2, 0, 1)),
            [0, 0, 0, 0, 1, 0, 2, 0],
        )


class Seen(unittest.TestCase):
    ahead = [begin(2), gate(AND, 0, 1), gate(NEITHER, 0, 2), test(3), test(0)]

    def after(self, *calls):
        return ask(*self.ahead, *calls)[len(self.ahead):]

    def test_each_gate_in_each_test(self):
        for v in (0, 1):
            self.assertEqual(self.after(seen(0, 0, v), seen(0, 1, v), seen(1, 0, v), seen(1, 1, v)), [0] * 4)

    def test_no_such_test(self):
        for t in (2, 3, 6, TOP):
            with self.subTest(t=t):
                self.assertEqual(self.after(seen(t, 0, 0)), [-2])
        self.assertEqual(ask(begin(1), gate(AND, 0, 0), seen(0, 0, 0)), [0, 0, -2])

    def test_no_such_gate(self):
        # Wires 2 and 3 are there, but w tells a gate.
        for w in (2, 3, 8, TOP):
            with self.subTest(w=w):
                self.assertEqual(self.after(seen(0, w, 0)), [-22])
        self.assertEqual(ask(begin(4), test(0), seen(0, 0, 0)), [0, 0, -22])

    def test_value_above_one(self):
        for v in (2, 3, TOP):
            with self.subTest(v=v):
                self.assertEqual(self.after(seen(0, 0, v)), [-22])

    def test_measured_already(self):
        for v in (0, 1):
            self.assertEqual(self.after(seen(0, 1, v), seen(0, 1, v), seen(0, 1, 1 - v)), [0, -17, -17])

    def test_measured_in_another_test_or_at_another_gate_is_not_measured(self):
        self.assertEqual(self.after(seen(0, 1, 0), seen(1, 1, 0), seen(0, 0, 0)), [0, 0, 0])

    def test_the_gate_is_told_not_the_wire(self):
        # Gate 0 should give 1 in test 0, and gate 1 should give 0.
        self.assertEqual(self.after(seen(0, 0, 0), explains(0), explains(1)), [0, 0, 1])
        self.assertEqual(self.after(seen(0, 1, 1), explains(0), explains(1), explains(2)), [0, 0, 0, 1])

    def test_first_named_is_answered(self):
        self.assertEqual(self.after(seen(2, 2, 0), seen(2, 0, 2), seen(TOP, TOP, TOP)), [-2, -2, -2])
        self.assertEqual(self.after(seen(0, 0, 1), seen(2, 0, 1)), [0, -2])
        self.assertEqual(self.after(seen(0, 0, 1), seen(0, 0, 2), seen(0, 2, 1)), [0, -22, -22])

    def test_refused_changes_nothing(self):
        sets = [explains(broken) for broken in range(4)]
        for refused in (seen(2, 0, 0), seen(0, 2, 0), seen(0, 0, 2), seen(0, 0, TOP)):
            with self.subTest(refused=refused):
                self.assertEqual(self.after(refused, *sets, seen(0, 0, 1), seen(0, 1, 0))[1:], [1] * 4 + [0, 0])

    def test_refused_as_measured_leaves_what_was_measured(self):
        sets = [explains(broken) for broken in range(4)]
        self.assertEqual(self.after(seen(0, 0, 1), seen(0, 0, 0), *sets), [0, -17, 1, 1, 1, 1])
        self.assertEqual(self.after(seen(0, 0, 0), seen(0, 0, 1), *sets), [0, -17, 0, 1, 0, 1])
