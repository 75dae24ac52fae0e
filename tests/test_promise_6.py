"""Promise 6: next."""

import random
import unittest

from tests.helper import (AND, OR, TOP, Plain, ask_lists, begin, explains, gate, least, measure_next, seen, some_circuits,
                          some_gates, some_tests, test, told, two_gate_circuits)

# Each gate hands on what it takes.
CHAIN = [(OR, k, k) for k in range(8)]

# Gate 2 is sure of its 0 twice over: it broken shows a 1, or both ahead of it.
TWICE_OVER = [(AND, 0, 0), (AND, 0, 0), (AND, 1, 2)]


def asked(inputs, gates, tests, *calls):
    """What the calls answer, the circuit told ahead of them."""
    ahead = told(inputs, gates, tests)
    return ask_lists(*ahead, *calls)[len(ahead):]


def all_nexts(inputs, gates, tests):
    return asked(inputs, gates, tests, *[measure_next(t) for t in range(len(tests) + 1)])


def plain_nexts(inputs, gates, tests):
    plain = Plain(inputs, gates, tests)
    return [plain.answer(measure_next(t)) for t in range(len(tests) + 1)]


class Refused(unittest.TestCase):
    def test_no_such_test(self):
        self.assertEqual(asked(1, CHAIN, [], measure_next(0), measure_next(TOP)), [[-2], [-2]])
        for t in (1, 2, 6, TOP):
            with self.subTest(t=t):
                self.assertEqual(asked(1, CHAIN, [(0, {})], measure_next(t)), [[-2]])
        self.assertEqual(asked(1, CHAIN, [(0, {})] * 6, measure_next(5), measure_next(6)), [[0, 1, 0], [-2]])

    def test_all_measured(self):
        self.assertEqual(asked(1, CHAIN[:1], [(0, {0: 0})], measure_next(0)), [[-6]])
        self.assertEqual(asked(1, CHAIN[:2], [(0, {1: 1, 0: 0})], measure_next(0)), [[-6]])
        self.assertEqual(asked(1, CHAIN, [(0, {w: w % 2 for w in range(8)})], measure_next(0)), [[-6]])

    def test_all_but_one_measured(self):
        for last in range(8):
            with self.subTest(last=last):
                measured = {w: 0 for w in range(8) if w != last}
                self.assertEqual(asked(1, CHAIN, [(0, measured)], measure_next(0)), [[last, 1, 0]])

    def test_all_measured_in_another_test(self):
        full = (0, {0: 0, 1: 0})
        self.assertEqual(all_nexts(1, CHAIN[:2], [full, (0, {}), full]), [[-6], [0, 1, 0], [-6], [-2]])
        # Together the tests have all wires measured, but neither has by itself.
        self.assertEqual(all_nexts(1, CHAIN[:2], [(0, {0: 0}), (0, {1: 0})]), [[1, 1, 0], [0, 1, 0], [-2]])

    def test_no_gates_at_all(self):
        self.assertEqual(all_nexts(1, [], []), [[-2]])
        self.assertEqual(all_nexts(3, [], [(5, {}), (0, {})]), [[-6], [-6], [-2]])

    def test_changes_nothing(self):
        calls = [measure_next(0), measure_next(1), measure_next(2), measure_next(TOP), least()]
        got = asked(1, CHAIN[:3], [(0, {2: 1}), (0, {0: 0, 1: 0, 2: 0})], *calls * 3, seen(0, 0, 0), *calls * 2)
        before = [[0, 2, 1], [-6], [-2], [-2], [3, 1, 2, 4]]
        after = [[1, 1, 1], [-6], [-2], [-2], [2, 2, 4]]
        self.assertEqual(got, [*before * 3, [0], *after * 2])


class Answered(unittest.TestCase):
    def test_the_two_numbers(self):
        # Gate 3 shows a 1, so one of the four is wrong, and gate 1 halves them.
        self.assertEqual(asked(1, CHAIN[:4], [(0, {3: 1})], least(), measure_next(0)), [[4, 1, 2, 4, 8], [1, 2, 2]])
        # With gate 0 measured there are three left, and gate 2 would leave as many as gate 1.
        self.assertEqual(asked(1, CHAIN[:4], [(0, {0: 0, 3: 1})], measure_next(0)), [[1, 2, 1]])
        self.assertEqual(asked(1, CHAIN, [(0, {7: 1})], measure_next(0)), [[3, 4, 4]])

    def test_which_number_is_which(self):
        self.assertEqual(asked(1, CHAIN[:3], [(0, {2: 1})], measure_next(0)), [[0, 2, 1]])
        self.assertEqual(asked(1, CHAIN[:3], [(1, {2: 0})], measure_next(0)), [[0, 1, 2]])

    def test_of_like_ones_the_first(self):
        gates = [(OR, 0, 0), (OR, 1, 1), (OR, 0, 0), (OR, 3, 3)]
        tests = [(0, {1: 1, 3: 1})]
        # Gate 0 and gate 2 leave two of four each, whatever they are.
        self.assertEqual(asked(1, gates, tests, least(), measure_next(0)), [[4, 5, 6, 9, 10], [0, 2, 2]])
        self.assertEqual(asked(1, gates, tests, seen(0, 0, 1), measure_next(0)), [[0], [2, 1, 1]])

    def test_like_ones_by_the_greater_alone(self):
        # Gate 0 leaves 2 or 1, gate 1 leaves 1 or 2: the greater is like.
        self.assertEqual(asked(1, CHAIN[:3], [(0, {2: 1})], measure_next(0)), [[0, 2, 1]])
        # Gate 0 is another chain and would leave all 3 or none.
        gates = [(OR, 0, 0), (OR, 0, 0), (OR, 2, 2), (OR, 3, 3)]
        self.assertEqual(asked(1, gates, [(0, {3: 1})], measure_next(0)), [[1, 2, 1]])

    def test_a_sound_circuit(self):
        # All leave the one explanation or none, so it's the first gate not measured.
        gates = [(OR, 0, 0), (AND, 0, 1), (4, 1, 2)]
        for bits, gives in ((0, (0, 0, 1)), (1, (1, 1, 0))):
            for many in range(3):
                measured = {w: gives[w] for w in range(many)}
                expected = [many, 1 - gives[many], gives[many]]
                self.assertEqual(asked(1, gates, [(bits, measured)], measure_next(0)), [expected])

    def test_one_explanation_may_be_left_either_way(self):
        # Gate 0 was wrong in test 0, so in test 1 it may give either, and gate 1 with it; gate 2 may not.
        gates = [(OR, 0, 0), (OR, 1, 1), (OR, 0, 0)]
        tests = [(0, {0: 1}), (1, {})]
        self.assertEqual(asked(1, gates, tests, least(), measure_next(1)), [[1, 1], [0, 1, 1]])
        self.assertEqual(asked(1, gates, tests, seen(1, 0, 0), measure_next(1)), [[0], [1, 1, 0]])
        self.assertEqual(asked(1, gates, tests, measure_next(0)), [[1, 0, 1]])

    def test_measured_in_this_test_and_not_in_another(self):
        tests = [(0, {0: 0}), (0, {1: 0}), (0, {})]
        self.assertEqual(all_nexts(1, CHAIN[:2], tests), [[1, 1, 0], [0, 1, 0], [0, 1, 0], [-2]])
        # Gate 3 shows a 1 in test 0; there gate 1 was measured, in test 1 it wasn't, and both count all tests' least.
        tests = [(0, {1: 0, 3: 1}), (0, {3: 1})]
        self.assertEqual(asked(1, CHAIN[:4], tests, least()), [[2, 4, 8]])
        self.assertEqual(all_nexts(1, CHAIN[:4], tests), [[2, 1, 1], [2, 1, 1], [-2]])

    def test_a_new_least_explanation_is_not_counted(self):
        tests = [(0, {2: 1})]
        self.assertEqual(asked(1, TWICE_OVER, tests, least(), measure_next(0)), [[2, 4, 3], [0, 1, 1]])
        # Measured 1, gate 0 is wrong: {0, 1} is left, and {0, 2} is least only now.
        self.assertEqual(asked(1, TWICE_OVER, tests, seen(0, 0, 1), least()), [[0], [2, 3, 5]])

    def test_what_is_not_least_is_not_counted(self):
        # Eight sets explain it with gate 0 among them, but it alone is least.
        gates = [(OR, 0, 0), (OR, 0, 0), (OR, 0, 0), (OR, 0, 0)]
        self.assertEqual(asked(1, gates, [(0, {0: 1})], measure_next(0)), [[1, 1, 0]])

    def test_as_it_stands(self):
        got = ask_lists(begin(1), gate(OR, 0, 0), gate(OR, 1, 1), test(0), measure_next(0), seen(0, 1, 1),
                        measure_next(0), seen(0, 0, 0), measure_next(0), test(1), measure_next(1), begin(1),
                        measure_next(0), test(0), measure_next(0), explains(0))
        self.assertEqual(got, [[0], [0], [1], [0], [0, 1, 0], [0], [0, 1, 1], [0], [-6], [1], [0, 0, 1], [0], [-2], [0],
                               [-6], [1]])


class WhatHolds(unittest.TestCase):
    def test_measured_next_as_many_are_left_as_was_told(self):
        chance = random.Random(61)
        for circuit in some_circuits(chance, 120, (1, 8), (3, 3), (0.3,)):
            t = chance.randrange(3)
            before, found = asked(*circuit, least(), measure_next(t))
            for v in (0, 1) if found != [-6] else ():
                kept = asked(*circuit, seen(t, found[0], v), least())[1]
                left = [broken for broken in before[1:] if broken in kept[1:]]
                self.assertEqual(len(left), found[1 + v], (circuit, t, v))

    def test_no_other_gate_leaves_fewer(self):
        for inputs, gates, tests in some_circuits(random.Random(62), 60, (2, 8), (3, 3), (0.2,)):
            before, found = asked(inputs, gates, tests, least(), measure_next(0))
            calls = [explains(broken) for broken in before[1:]]
            for w in range(len(gates)):
                if w in tests[0][1]:
                    self.assertNotEqual(found[0], w)
                    continue
                left = [sum(part[0] for part in asked(inputs, gates, tests, seen(0, w, v), *calls)[1:]) for v in (0, 1)]
                least_worse = 1 if w < found[0] else 0
                self.assertGreaterEqual(max(left), max(found[1:]) + least_worse, (gates, tests, w))


class AgainstPlainTrying(unittest.TestCase):
    def test_all_circuits_of_two_gates_on_one_input(self):
        for circuit in two_gate_circuits():
            self.assertEqual(all_nexts(*circuit), plain_nexts(*circuit), circuit)

    def test_some_small_circuits(self):
        met = {}
        for circuit in some_circuits(random.Random(63), 300, (1, 5), (1, 4), (0.1, 0.3, 0.6)):
            got = all_nexts(*circuit)
            self.assertEqual(got, plain_nexts(*circuit), circuit)
            met.update({one[0]: True for one in got})
        self.assertEqual(sorted(met), [-6, -2, 0, 1, 2, 3, 4])

    def test_some_circuits_of_eight_gates_and_six_tests(self):
        chance = random.Random(64)
        for inputs, odds in ((1, 0.15), (2, 0.2), (4, 0.3)):
            gates, tests = some_gates(chance, inputs, 8), some_tests(chance, inputs, 8, 6, odds)
            self.assertEqual(all_nexts(inputs, gates, tests), plain_nexts(inputs, gates, tests), (gates, tests))
