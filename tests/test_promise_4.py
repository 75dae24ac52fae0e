"""Promise 4: least, suspects and sure."""

import random
import unittest

from tests.helper import (AND, NEITHER, NOT_BOTH, ONE_ALONE, OR, Plain, ask_lists, begin, explains, gate, in_order,
                          least, measure_next, parts_of, seen, some_circuits, some_gates, some_tests, sure, suspects,
                          test, told, two_gate_circuits)

# Each gate hands on what it takes, so the last one shows the input.
CHAIN = [(OR, k, k) for k in range(8)]

# Gate 2 is sure of its 0 twice over: it broken shows a 1, or both ahead of it.
TWICE_OVER = [(AND, 0, 0), (AND, 0, 0), (AND, 1, 2)]


def all_three(inputs, gates, tests):
    """What least, suspects and sure answer."""
    return ask_lists(*told(inputs, gates, tests), least(), suspects(), sure())[-3:]


def plain_three(inputs, gates, tests):
    plain = Plain(inputs, gates, tests)
    return [plain.least(), plain.suspects(), plain.sure()]


def explaining_and_all_three(inputs, gates, tests):
    """For each set whether it explains it all, then what the three answer, the sets without how many there are."""
    calls = told(inputs, gates, tests)
    calls += [explains(broken) for broken in range(2 ** len(gates))]
    parts = ask_lists(*calls, least(), suspects(), sure())
    explaining = [part[0] for part in parts[len(calls) - 2 ** len(gates):len(calls)]]
    return explaining, parts[-3][1:], parts[-2][1:], parts[-1]


def any_circuits(seed, many):
    return some_circuits(random.Random(seed), many, (0, 8), (1, 3), (0.1, 0.3, 0.5, 1))


class Little(unittest.TestCase):
    def test_no_gates(self):
        self.assertEqual(all_three(1, [], []), [[1, 0], [0], [0, 0, 0]])
        self.assertEqual(all_three(4, [], [(0, {})] * 6), [[1, 0], [0], [0, 0, 0]])

    def test_no_tests(self):
        self.assertEqual(all_three(2, [(AND, 0, 1), (OR, 0, 2)], []), [[1, 0], [0], [0, 0, 3]])
        self.assertEqual(all_three(1, CHAIN, []), [[1, 0], [0], [0, 0, 255]])

    def test_nothing_measured(self):
        gates = [(AND, 0, 1), (NEITHER, 2, 2), (ONE_ALONE, 3, 0)]
        self.assertEqual(all_three(2, gates, [(3, {})]), [[1, 0], [0], [0, 0, 7]])
        self.assertEqual(all_three(1, CHAIN, [(0, {}), (1, {})] * 3), [[1, 0], [0], [0, 0, 255]])

    def test_sound_as_measured(self):
        gates = [(AND, 0, 1), (NOT_BOTH, 0, 1), (ONE_ALONE, 2, 3)]
        tests = [(3, {0: 1, 1: 0, 2: 1}), (0, {0: 0, 1: 1, 2: 1}), (1, {2: 1})]
        self.assertEqual(all_three(2, gates, tests), [[1, 0], [0], [0, 0, 7]])
        self.assertEqual(all_three(1, CHAIN, [(0, {7: 0}), (1, {7: 1, 3: 1})]), [[1, 0], [0], [0, 0, 255]])

    def test_one_gate_alone(self):
        self.assertEqual(all_three(1, [(OR, 0, 0)], [(0, {0: 1})]), [[1, 1], [1, 1], [0, 1, 0]])
        self.assertEqual(all_three(1, [(OR, 0, 0)], [(0, {0: 0})]), [[1, 0], [0], [0, 0, 1]])


class Written(unittest.TestCase):
    def test_one_single_gate_explains_it(self):
        self.assertEqual(all_three(1, CHAIN[:2], [(0, {0: 0, 1: 1})]), [[1, 2], [1, 2], [0, 2, 1]])
        self.assertEqual(all_three(1, CHAIN, [(1, {4: 1, 5: 0})]), [[1, 32], [1, 32], [0, 32, 223]])

    def test_several_single_gates_explain_it(self):
        self.assertEqual(all_three(1, CHAIN[:2], [(0, {1: 1})]), [[2, 1, 2], [1, 3], [0, 0, 0]])
        self.assertEqual(all_three(1, CHAIN[:4], [(0, {2: 1})]), [[3, 1, 2, 4], [1, 7], [0, 0, 8]])
        every = [1, 2, 4, 8, 16, 32, 64, 128]
        self.assertEqual(all_three(1, CHAIN, [(1, {7: 0})]), [[8, *every], [1, 255], [0, 0, 0]])

    def test_no_single_gate_explains_it(self):
        gates = [(OR, 0, 0), (OR, 0, 0), (OR, 0, 0)]
        self.assertEqual(all_three(1, gates, [(0, {0: 1, 2: 1})]), [[1, 5], [2, 1, 4], [0, 5, 2]])
        self.assertEqual(all_three(1, gates, [(0, {0: 1}), (1, {2: 0})]), [[1, 5], [2, 1, 4], [0, 5, 2]])

    def test_all_gates_together_and_no_fewer(self):
        gates = [(OR, 0, 0)] * 8
        every = [1, 2, 4, 8, 16, 32, 64, 128]
        wrong = {w: 1 for w in range(8)}
        self.assertEqual(all_three(1, gates, [(0, wrong)]), [[1, 255], [8, *every], [0, 255, 0]])

    def test_what_one_test_leaves_another_takes(self):
        # Of gates 0 and 1 the first test suspects either, the second tells gate 0 was right there but not gate 1.
        tests = [(0, {1: 1}), (0, {0: 0, 1: 1})]
        self.assertEqual(all_three(1, CHAIN[:2], tests), [[1, 2], [1, 2], [0, 2, 1]])

    def test_two_pairs(self):
        # Gates 0 and 1 are one chain, gates 2 and 3 another; each shows a fault.
        gates = [(OR, 0, 0), (OR, 1, 1), (OR, 0, 0), (OR, 3, 3)]
        tests = [(0, {1: 1}), (1, {3: 0})]
        self.assertEqual(all_three(1, gates, tests), [[4, 5, 6, 9, 10], [2, 3, 12], [0, 0, 0]])


class Order(unittest.TestCase):
    def test_fewer_gates_first_then_the_lesser_number(self):
        self.assertEqual(all_three(1, TWICE_OVER, [(0, {2: 1})]), [[2, 4, 3], [2, 5, 6], [0, 0, 0]])

    def test_of_suspects_too(self):
        gates = [(AND, 0, 0), (OR, 1, 1), (AND, 0, 0)]
        self.assertEqual(all_three(1, gates, [(0, {1: 1, 2: 1})]), [[2, 5, 6], [2, 4, 3], [0, 4, 0]])

    def test_on_some_circuits(self):
        unlike = [0, 0]
        for inputs, gates, tests in any_circuits(41, 150):
            for k, part in enumerate(all_three(inputs, gates, tests)[:2]):
                self.assertEqual(part[0], len(part) - 1)
                self.assertEqual(part[1:], in_order(set(part[1:])), (inputs, gates, tests))
                unlike[k] += part[1:] != sorted(part[1:])
        self.assertGreater(min(unlike), 1)


class WhatHolds(unittest.TestCase):
    def test_least_explanations_explain_and_no_part_does(self):
        for inputs, gates, tests in any_circuits(42, 80):
            explaining, least_ones, suspected, surely = explaining_and_all_three(inputs, gates, tests)
            self.assertGreater(len(least_ones), 0)
            for broken in least_ones:
                self.assertEqual(explaining[broken], 1)
                self.assertFalse(any(explaining[part] for part in parts_of(broken)), (gates, tests, broken))

    def test_all_others_of_a_least_suspect_do_not_explain_and_of_its_parts_do(self):
        for inputs, gates, tests in any_circuits(43, 80):
            explaining, least_ones, suspected, surely = explaining_and_all_three(inputs, gates, tests)
            for bits in suspected:
                self.assertEqual(explaining[len(explaining) - 1 - bits], 0)
                for part in parts_of(bits):
                    self.assertEqual(explaining[len(explaining) - 1 - part], 1, (gates, tests, bits))

    def test_explanations_are_just_what_meets_all_suspects(self):
        for inputs, gates, tests in any_circuits(44, 80):
            explaining, least_ones, suspected, surely = explaining_and_all_three(inputs, gates, tests)
            meets = [int(all(bits & one for one in suspected)) for bits in range(2 ** len(gates))]
            self.assertEqual(explaining, meets, (gates, tests))

    def test_suspects_are_just_what_meets_all_explanations(self):
        for inputs, gates, tests in any_circuits(45, 80):
            explaining, least_ones, suspected, surely = explaining_and_all_three(inputs, gates, tests)
            meets = [all(bits & one for one in least_ones) for bits in range(2 ** len(gates))]
            others_fail = [not one for one in reversed(explaining)]
            self.assertEqual(meets, others_fail, (gates, tests))
            self.assertEqual([bits for bits in suspected if not meets[bits]], [])

    def test_where_a_sound_circuit_does_nothing_alone_is_least(self):
        for inputs, gates, tests in any_circuits(46, 80):
            explaining, least_ones, suspected, surely = explaining_and_all_three(inputs, gates, tests)
            self.assertEqual(explaining[0] == 1, least_ones == [0])
            self.assertEqual(explaining[0] == 1, suspected == [])

    def test_sure_by_the_least_explanations(self):
        for inputs, gates, tests in any_circuits(47, 80):
            explaining, least_ones, suspected, surely = explaining_and_all_three(inputs, gates, tests)
            zero, in_all, in_none = surely
            self.assertEqual(zero, 0)
            for k in range(8):
                with_it = sum(broken >> k & 1 for broken in least_ones)
                self.assertEqual(in_all >> k & 1, int(k < len(gates) and with_it == len(least_ones)))
                self.assertEqual(in_none >> k & 1, int(k < len(gates) and with_it == 0))
            self.assertEqual((in_all >> 8, in_none >> 8), (0, 0))


class AsItStands(unittest.TestCase):
    def test_each_measured_wire_is_told_at_once(self):
        got = ask_lists(
            begin(1), gate(OR, 0, 0), gate(OR, 1, 1), least(), test(0), suspects(), seen(0, 1, 1), least(), suspects(),
            sure(), seen(0, 0, 1), least(), suspects(), sure(), test(1), seen(1, 1, 0), least(), seen(1, 0, 1), least(),
            suspects(), sure(),
        )
        self.assertEqual(got, [
            [0], [0], [1], [1, 0], [0], [0], [0], [2, 1, 2], [1, 3], [0, 0, 0], [0], [1, 1], [1, 1], [0, 1, 2], [1], [0],
            [1, 1], [0], [1, 3], [2, 1, 2], [0, 3, 0],
        ])

    def test_they_change_nothing(self):
        calls = told(1, TWICE_OVER, [(0, {2: 1}), (1, {})])
        asked = [least(), suspects(), sure(), measure_next(0), measure_next(1), explains(3), explains(1)]
        got = ask_lists(*calls, *asked * 3, seen(0, 0, 1), *asked * 2)
        first, later = got[len(calls):-2 * len(asked) - 1], got[-2 * len(asked):]
        self.assertEqual(first, first[:len(asked)] * 3)
        self.assertEqual(later, later[:len(asked)] * 2)
        self.assertEqual(later[:3], [[2, 3, 5], [2, 1, 6], [0, 1, 0]])

    def test_begun_anew_nothing_is_left(self):
        calls = told(1, CHAIN, [(0, {7: 1})])
        got = ask_lists(*calls, least(), begin(2), least(), suspects(), sure(), gate(AND, 0, 1), least(), sure())
        self.assertEqual(got[len(calls) + 1:], [[0], [1, 0], [0], [0, 0, 0], [0], [1, 0], [0, 0, 1]])

    def test_a_refused_begin_leaves_all(self):
        calls = told(1, CHAIN[:2], [(0, {1: 1})])
        got = ask_lists(*calls, begin(5), least(), begin(0), suspects(), sure())
        self.assertEqual(got[len(calls):], [[-22], [2, 1, 2], [-22], [1, 3], [0, 0, 0]])


class AgainstPlainTrying(unittest.TestCase):
    def test_all_circuits_of_two_gates_on_one_input(self):
        for circuit in two_gate_circuits():
            self.assertEqual(all_three(*circuit), plain_three(*circuit), circuit)

    def test_some_small_circuits(self):
        for circuit in some_circuits(random.Random(48), 250, (1, 5), (1, 4), (0.2, 0.5, 1)):
            self.assertEqual(all_three(*circuit), plain_three(*circuit), circuit)

    def test_some_circuits_of_eight_gates_and_six_tests(self):
        chance = random.Random(49)
        for inputs, odds in ((1, 0.15), (2, 0.25), (4, 0.4)):
            gates = some_gates(chance, inputs, 8)
            tests = some_tests(chance, inputs, 8, 6, odds)
            self.assertEqual(all_three(inputs, gates, tests), plain_three(inputs, gates, tests), (gates, tests))
