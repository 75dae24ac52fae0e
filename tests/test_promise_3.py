"""Promise 3: explains."""

import random
import unittest
from itertools import product

from tests.helper import (AND, NOT_BOTH, ONE_ALONE, OR, SHOULD, TOP, ask, begin, explains, gate, last,
                          plainly_explains, seen, some_circuits, some_gates, some_tests, test, told,
                          two_gate_circuits)


def all_sets(gates):
    return [explains(broken) for broken in range(2 ** gates)]


def asked_sets(inputs, gates, tests):
    """For each set, what explains answers, with these gates and tests (their inputs, what was measured by gate)."""
    calls = told(inputs, gates, tests)
    return ask(*calls, *all_sets(len(gates)))[len(calls):]


def plain_sets(inputs, gates, tests):
    return [int(plainly_explains(inputs, gates, tests, broken)) for broken in range(2 ** len(gates))]


class Refused(unittest.TestCase):
    def test_a_bit_of_no_gate(self):
        ahead = [begin(2), gate(AND, 0, 1), gate(OR, 0, 2), test(3), seen(0, 0, 1)]
        for broken in (4, 5, 7, 8, 2 ** 31, TOP):
            with self.subTest(broken=broken):
                self.assertEqual(last(*ahead, explains(broken)), -22)

    def test_past_the_eighth_gate(self):
        ahead = [begin(4)] + [gate(AND, 0, 1)] * 8 + [test(0)]
        self.assertEqual(ask(*ahead, explains(255), explains(256), explains(511))[-3:], [1, -22, -22])

    def test_changes_nothing(self):
        self.assertEqual(
            ask(begin(1), gate(AND, 0, 0), explains(2), gate(AND, 0, 1), test(1), explains(4), seen(0, 1, 0), explains(0)),
            [0, 0, -22, 1, 0, -22, 0, 0],
        )


class Little(unittest.TestCase):
    def test_no_gates(self):
        self.assertEqual(ask(begin(4), explains(0), explains(1)), [0, 1, -22])
        self.assertEqual(ask(begin(4), test(15), test(0), explains(0), explains(1)), [0, 0, 1, 1, -22])

    def test_no_tests(self):
        self.assertEqual(ask(begin(2), gate(AND, 0, 1), gate(OR, 0, 2), *all_sets(2)), [0, 0, 1, 1, 1, 1, 1])

    def test_nothing_measured(self):
        self.assertEqual(asked_sets(2, [(AND, 0, 1), (NOT_BOTH, 2, 2), (ONE_ALONE, 3, 0)], [(3, {}), (0, {})]), [1] * 8)


class Kinds(unittest.TestCase):
    def test_each_kind_at_each_value_of_its_wires(self):
        for kind, a, b, v in product(range(5), (0, 1), (0, 1), (0, 1)):
            with self.subTest(kind=kind, a=a, b=b, v=v):
                sound = int(SHOULD[kind][a, b] == v)
                self.assertEqual(asked_sets(2, [(kind, 0, 1)], [(a + 2 * b, {0: v})]), [sound, 1])
                self.assertEqual(asked_sets(2, [(kind, 1, 0)], [(a + 2 * b, {0: v})]), [sound, 1])

    def test_each_kind_with_the_same_wire_twice(self):
        for kind, a, v in product(range(5), (0, 1), (0, 1)):
            with self.subTest(kind=kind, a=a, v=v):
                sound = int(SHOULD[kind][a, a] == v)
                self.assertEqual(asked_sets(1, [(kind, 0, 0)], [(a, {0: v})]), [sound, 1])

    def test_each_kind_of_wires_that_broken_gates_give(self):
        # Gates 0 and 1 are broken and were measured; gate 2 takes their wires.
        for kind, a, b, v in product(range(5), (0, 1), (0, 1), (0, 1)):
            with self.subTest(kind=kind, a=a, b=b, v=v):
                got = asked_sets(1, [(AND, 0, 0), (AND, 0, 0), (kind, 1, 2)], [(0, {0: a, 1: b, 2: v})])
                sound = int(SHOULD[kind][a, b] == v)
                self.assertEqual((got[3], got[7]), (sound, 1))

    def test_each_kind_of_wires_that_were_not_measured(self):
        # Gate 0 broken may give either, so gate 1 may give whatever its kind can with input 0.
        for kind, a, v in product(range(5), (0, 1), (0, 1)):
            with self.subTest(kind=kind, a=a, v=v):
                got = asked_sets(1, [(OR, 0, 0), (kind, 0, 1)], [(a, {1: v})])
                can = int(v in (SHOULD[kind][a, 0], SHOULD[kind][a, 1]))
                self.assertEqual(got, [int(v == SHOULD[kind][a, a]), can, 1, 1])

    def test_input_bits_by_their_place(self):
        for k, other in product(range(4), range(4)):
            with self.subTest(k=k, other=other):
                self.assertEqual(asked_sets(4, [(AND, k, k)], [(1 << other, {0: 1})]), [int(k == other), 1])


class SeveralTests(unittest.TestCase):
    def test_a_broken_gate_may_give_now_this_now_that(self):
        self.assertEqual(asked_sets(2, [(AND, 0, 1)], [(3, {0: 0}), (3, {0: 1}), (0, {0: 1}), (0, {0: 0})]), [0, 1])

    def test_not_measured_it_may_have_been_another_way_in_each(self):
        gates = [(AND, 0, 1), (NOT_BOTH, 2, 2)]
        self.assertEqual(asked_sets(2, gates, [(3, {1: 0}), (3, {1: 1})]), [0, 1, 1, 1])

    def test_one_that_is_not_explained_is_enough(self):
        gates = [(AND, 0, 1), (OR, 0, 1)]
        fine, off = (3, {0: 1, 1: 1}), (0, {1: 1})
        for at in range(6):
            with self.subTest(at=at):
                tests = [off if t == at else fine for t in range(6)]
                self.assertEqual(asked_sets(2, gates, tests), [0, 0, 1, 1])

    def test_tests_that_ask_for_other_gates_ask_for_both(self):
        gates = [(AND, 0, 1), (OR, 0, 1)]
        self.assertEqual(asked_sets(2, gates, [(0, {0: 1}), (0, {1: 1})]), [0, 0, 0, 1])


class WhatHolds(unittest.TestCase):
    def test_all_broken_explain_anything(self):
        chance = random.Random(3)
        for many in range(9):
            for inputs in (1, 2, 3, 4):
                gates = some_gates(chance, inputs, many)
                tests = some_tests(chance, inputs, many, 6, 1)
                with self.subTest(inputs=inputs, gates=gates, tests=tests):
                    self.assertEqual(asked_sets(inputs, gates, tests)[-1], 1)

    def test_all_measured_just_the_gates_that_were_wrong_are_asked_for(self):
        gates = some_gates(random.Random(2), 3, 8)
        for wrong in range(256):
            wires = [1, 0, 1]
            for k, (kind, a, b) in enumerate(gates):
                wires.append(SHOULD[kind][wires[a], wires[b]] ^ wrong >> k & 1)
            got = asked_sets(3, gates, [(5, dict(enumerate(wires[3:])))])
            self.assertEqual(got, [int(broken & wrong == wrong) for broken in range(256)], (gates, wrong))

    def test_what_a_sound_circuit_does_nothing_broken_explains(self):
        chance = random.Random(4)
        for inputs in (1, 2, 3, 4):
            gates = some_gates(chance, inputs, 8)
            tests = []
            for bits in range(min(6, 2 ** inputs)):
                wires = [bits >> k & 1 for k in range(inputs)]
                for kind, a, b in gates:
                    wires.append(SHOULD[kind][wires[a], wires[b]])
                tests.append((bits, {w: wires[inputs + w] for w in range(8)}))
            with self.subTest(inputs=inputs, gates=gates):
                self.assertEqual(asked_sets(inputs, gates, tests), [1] * 256)

    def test_more_broken_explain_more(self):
        chance = random.Random(5)
        for again in range(40):
            inputs, many = chance.randint(1, 4), chance.randint(1, 8)
            got = asked_sets(inputs, some_gates(chance, inputs, many), some_tests(chance, inputs, many, 3, 0.5))
            for broken, k in product(range(2 ** many), range(many)):
                self.assertLessEqual(got[broken], got[broken | 1 << k])

    def test_more_measured_leaves_less(self):
        chance = random.Random(6)
        fewer = 0
        for again in range(15):
            inputs = chance.randint(1, 4)
            calls = [begin(inputs)] + [gate(*one) for one in some_gates(chance, inputs, 5)]
            calls += [test(chance.randrange(2 ** inputs)) for t in range(2)]
            before = [1] * 32
            for t, w in chance.sample(list(product(range(2), range(5))), 10):
                calls.append(seen(t, w, chance.randrange(2)))
                now = ask(*calls, *all_sets(5))[len(calls):]
                self.assertTrue(all(was >= left for was, left in zip(before, now)))
                fewer += now != before
                before = now
        self.assertGreater(fewer, 15)


class AgainstPlainTrying(unittest.TestCase):
    def test_all_circuits_of_two_gates_on_one_input(self):
        for circuit in two_gate_circuits():
            self.assertEqual(asked_sets(*circuit), plain_sets(*circuit), circuit)

    def test_some_small_circuits(self):
        for circuit in some_circuits(random.Random(7), 250, (1, 4), (1, 3), (0.3, 0.6, 1)):
            self.assertEqual(asked_sets(*circuit), plain_sets(*circuit), circuit)

    def test_some_circuits_of_eight_gates(self):
        chance = random.Random(8)
        for inputs in (1, 2):
            gates = some_gates(chance, inputs, 8)
            tests = some_tests(chance, inputs, 8, 2, 0.5)
            self.assertEqual(asked_sets(inputs, gates, tests), plain_sets(inputs, gates, tests), (gates, tests))
