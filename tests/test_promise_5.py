"""Promise 5: may."""

import random
import unittest
from itertools import product

from tests.helper import (AND, NEITHER, NOT_BOTH, ONE_ALONE, OR, SHOULD, TOP, Plain, ask, begin, explains, gate,
                          joined, may, seen, some_circuits, some_gates, some_tests, test, told, two_gate_circuits)

# Gate 1 takes what gate 0 gives; gate 2 takes an input alone.
GATES = [(OR, 0, 0), (OR, 1, 1), (OR, 0, 0)]


def asked(inputs, gates, tests, *calls):
    """What the calls answer, the circuit told ahead of them."""
    ahead = told(inputs, gates, tests)
    return ask(*ahead, *calls)[len(ahead):]


def all_mays(gates, tests):
    return [may(broken, t, w) for broken in range(2 ** gates) for t in range(tests) for w in range(gates)]


def plain_answers(inputs, gates, tests, calls):
    plain = Plain(inputs, gates, tests)
    return joined(plain.answer(call) for call in calls)


class Refused(unittest.TestCase):
    def test_no_such_test(self):
        self.assertEqual(asked(1, GATES, [], may(0, 0, 0)), [-2])
        for t in (1, 2, 6, TOP):
            with self.subTest(t=t):
                self.assertEqual(asked(1, GATES, [(0, {})], may(0, t, 0), may(7, t, 2)), [-2, -2])
        self.assertEqual(asked(1, GATES, [(0, {})] * 6, may(0, 5, 0), may(0, 6, 0)), [1, -2])

    def test_a_bit_of_no_gate(self):
        for broken in (8, 9, 15, 256, 2 ** 31, TOP):
            with self.subTest(broken=broken):
                self.assertEqual(asked(1, GATES, [(0, {})], may(broken, 0, 0), may(broken, 0, 2)), [-22, -22])
        self.assertEqual(asked(1, [(OR, 0, 0)] * 8, [(0, {})], may(255, 0, 7), may(256, 0, 7)), [3, -22])

    def test_no_such_gate(self):
        for w in (3, 4, 8, TOP):
            with self.subTest(w=w):
                self.assertEqual(asked(1, GATES, [(0, {})], may(0, 0, w), may(7, 0, w)), [-22, -22])
        self.assertEqual(asked(1, [(OR, 0, 0)] * 8, [(0, {})], may(0, 0, 7), may(0, 0, 8)), [1, -22])

    def test_no_gates_at_all(self):
        self.assertEqual(asked(4, [], [(0, {})], may(0, 0, 0), may(1, 0, 0), may(0, 1, 0)), [-22, -22, -2])

    def test_no_way(self):
        self.assertEqual(asked(1, GATES, [(0, {0: 1})], *[may(broken, 0, 1) for broken in range(8)]),
                         [-61, 2, -61, 3, -61, 2, -61, 3])
        self.assertEqual(asked(1, GATES, [(0, {1: 1})], *[may(broken, 0, 0) for broken in range(8)]),
                         [-61, 2, 1, 3, -61, 2, 1, 3])

    def test_no_way_is_told_for_every_gate(self):
        self.assertEqual(asked(1, GATES, [(0, {1: 1})], *[may(4, 0, w) for w in range(3)]), [-61] * 3)

    def test_of_several_the_first_named(self):
        tests = [(0, {0: 1})]
        # The set 6 can't have been; the bit 8 is of no gate; neither gate 3 nor test 1 is there.
        self.assertEqual(asked(1, GATES, tests, may(6, 0, 0)), [-61])
        for broken, w in ((8, 0), (0, 3), (8, 3), (TOP, TOP)):
            with self.subTest(broken=broken, w=w):
                self.assertEqual(asked(1, GATES, tests, may(broken, 1, w), may(broken, TOP, w)), [-2, -2])
        for broken, w in ((8, 0), (14, 0), (6, 3), (0, TOP), (8, 3), (TOP, TOP)):
            with self.subTest(broken=broken, w=w):
                self.assertEqual(asked(1, GATES, tests, may(broken, 0, w)), [-22])

    def test_changes_nothing(self):
        asks = [may(0, 1, 0), may(8, 0, 0), may(0, 0, 3), may(6, 0, 0), may(7, 0, 1), may(1, 0, 2)]
        got = asked(1, GATES, [(0, {0: 1})], explains(0), *asks, explains(0), explains(1), *asks, seen(0, 0, 0),
                    seen(0, 1, 0), *asks, test(0))
        refused = [-2, -22, -22, -61]
        self.assertEqual(got, [0, *refused, 3, 1, 0, 1, *refused, 3, 1, -17, 0, *refused, 1, -61, 1])


class Answered(unittest.TestCase):
    def test_a_sound_gate_of_each_kind(self):
        for kind, a, b in product(range(5), (0, 1), (0, 1)):
            with self.subTest(kind=kind, a=a, b=b):
                sound = 1 + SHOULD[kind][a, b]
                self.assertEqual(asked(2, [(kind, 0, 1)], [(a + 2 * b, {})], may(0, 0, 0), may(1, 0, 0)), [sound, 3])

    def test_a_broken_gate_may_give_either(self):
        for kind, bits in product(range(5), range(4)):
            self.assertEqual(asked(2, [(kind, 0, 1)] * 2, [(bits, {})], may(1, 0, 0), may(2, 0, 1), may(3, 0, 0)), [3] * 3)

    def test_a_gate_that_takes_from_a_broken_one(self):
        for kind, a in product(range(5), (0, 1)):
            with self.subTest(kind=kind, a=a):
                can = {SHOULD[kind][a, 0], SHOULD[kind][a, 1]}
                self.assertEqual(asked(1, [(OR, 0, 0), (kind, 0, 1)], [(a, {})], may(1, 0, 1)), [sum(1 + v for v in can)])

    def test_a_gate_that_was_measured(self):
        for v in (0, 1):
            with self.subTest(v=v):
                got = asked(1, GATES, [(0, {1: v})], may(2, 0, 1), may(1, 0, 1), may(7, 0, 1), may(0, 0, 1))
                self.assertEqual(got, [1 + v, 1 + v, 1 + v, -61 if v else 1])

    def test_what_was_measured_behind_tells_of_what_is_ahead(self):
        # Gate 1 is sound and shows what gate 0 gave; broken too, it shows nothing.
        self.assertEqual(asked(1, GATES, [(0, {1: 1})], may(1, 0, 0), may(3, 0, 0)), [2, 3])
        self.assertEqual(asked(1, GATES, [(0, {1: 0})], may(1, 0, 0), may(3, 0, 0)), [1, 3])

    def test_a_gate_in_the_set_and_one_that_is_not(self):
        self.assertEqual(asked(1, GATES, [(1, {})], *[may(1, 0, w) for w in range(3)]), [3, 3, 2])
        self.assertEqual(asked(1, GATES, [(1, {})], *[may(2, 0, w) for w in range(3)]), [2, 3, 2])
        self.assertEqual(asked(1, GATES, [(1, {})], *[may(4, 0, w) for w in range(3)]), [2, 2, 3])
        self.assertEqual(asked(1, GATES, [(1, {})], *[may(0, 0, w) for w in range(3)]), [2, 2, 2])

    def test_a_wire_that_is_masked(self):
        gates = [(OR, 0, 0), (AND, 0, 1), (NOT_BOTH, 0, 1), (ONE_ALONE, 0, 1), (NEITHER, 1, 1)]
        self.assertEqual(asked(1, gates, [(0, {})], *[may(1, 0, w) for w in range(5)]), [3, 1, 2, 3, 3])

    def test_other_tests_do_not_bear_on_it(self):
        # No way with nothing broken in test 1; in test 0 there is one, whatever test 1 and 2 show.
        tests = [(0, {}), (0, {0: 1}), (1, {0: 0, 1: 1})]
        self.assertEqual(asked(1, GATES, tests, *[may(0, t, w) for t in range(3) for w in range(3)]),
                         [1, 1, 1, -61, -61, -61, -61, -61, -61])
        self.assertEqual(asked(1, GATES, tests, *[may(1, t, w) for t in range(3) for w in range(3)]),
                         [3, 3, 1, 2, 2, 1, -61, -61, -61])
        self.assertEqual(asked(1, GATES, tests, explains(0), explains(1), may(3, 2, 0), may(3, 2, 2)), [0, 0, 1, 2])

    def test_a_gate_that_was_measured_in_another_test(self):
        self.assertEqual(asked(1, GATES, [(0, {}), (0, {0: 1})], may(1, 0, 0), may(1, 1, 0)), [3, 2])
        self.assertEqual(asked(1, GATES, [(0, {0: 0}), (0, {})], may(7, 0, 0), may(7, 1, 0)), [1, 3])

    def test_as_it_stands(self):
        got = ask(begin(1), gate(OR, 0, 0), gate(OR, 1, 1), test(0), may(3, 0, 0), may(1, 0, 0), seen(0, 1, 1),
                  may(3, 0, 0), may(1, 0, 0), may(0, 0, 0), seen(0, 0, 0), may(3, 0, 0), may(1, 0, 0), begin(1),
                  may(0, 0, 0), gate(AND, 0, 0), test(1), may(0, 0, 0))
        self.assertEqual(got, [0, 0, 1, 0, 3, 3, 0, 3, 2, -61, 0, 1, -61, 0, -2, 0, 0, 2])


class WhatHolds(unittest.TestCase):
    def test_a_set_explains_it_all_if_each_test_had_a_way(self):
        chance = random.Random(51)
        for inputs, gates, tests in some_circuits(chance, 60, (1, 8), (4, 4), (0.3,)):
            sets = 2 ** len(gates)
            for broken in chance.sample(range(sets), min(sets, 20)):
                calls = [may(broken, t, len(gates) - 1) for t in range(4)]
                got = asked(inputs, gates, tests, explains(broken), *calls)
                self.assertEqual(got[0], int(-61 not in got[1:]))

    def test_more_broken_may_be_more(self):
        for circuit in some_circuits(random.Random(52), 30, (4, 4), (1, 1), (0.3,)):
            got = [0 if one == -61 else one for one in asked(*circuit, *all_mays(4, 1))]
            for broken, k, w in product(range(16), range(4), range(4)):
                fewer, more = got[4 * broken + w], got[4 * (broken | 1 << k) + w]
                self.assertEqual(fewer & more, fewer)

    def test_it_may_be_measured_just_as_it_may_have_been(self):
        for inputs, gates, tests in some_circuits(random.Random(53), 60, (1, 6), (1, 1), (0.3,)):
            for w in [w for w in range(len(gates)) if w not in tests[0][1]][:1]:
                for broken in range(2 ** len(gates)):
                    may_be = asked(inputs, gates, tests, may(broken, 0, w))[0]
                    after = [asked(inputs, gates, tests, seen(0, w, v), explains(broken))[1] for v in (0, 1)]
                    self.assertEqual(max(may_be, 0), after[0] + 2 * after[1])


class AgainstPlainTrying(unittest.TestCase):
    def test_all_circuits_of_two_gates_on_one_input(self):
        calls = all_mays(2, 1)
        for circuit in two_gate_circuits():
            self.assertEqual(asked(*circuit, *calls), plain_answers(*circuit, calls), circuit)

    def test_some_small_circuits(self):
        met = {}
        for circuit in some_circuits(random.Random(54), 150, (1, 4), (1, 3), (0.2, 0.5, 0.8)):
            calls = all_mays(len(circuit[1]), len(circuit[2]))
            got = asked(*circuit, *calls)
            self.assertEqual(got, plain_answers(*circuit, calls), circuit)
            met.update({one: True for one in got})
        self.assertEqual(sorted(met), [-61, 1, 2, 3])

    def test_some_circuits_of_eight_gates_and_six_tests(self):
        chance = random.Random(55)
        for inputs, odds in ((1, 0.15), (4, 0.4)):
            gates, tests = some_gates(chance, inputs, 8), some_tests(chance, inputs, 8, 6, odds)
            calls = chance.sample(all_mays(8, 6), 300)
            self.assertEqual(asked(inputs, gates, tests, *calls), plain_answers(inputs, gates, tests, calls))
