"""All calls together: mixed lists, long lists, and what is begun again, against the document's words."""

import random
import unittest

from faultfinder.circuit import answers
from tests.helper import (AND, NOT_BOTH, ONE_ALONE, OR, TOP, Plain, ask_lists, begin, explains, gate, joined, least, may,
                          measure_next, seen, some_gates, some_tests, sure, suspects, test, told)

MOST_CALLS = 400

ASKED = [explains(0), explains(3), least(), suspects(), sure(), may(1, 0, 1), may(2, 1, 0), measure_next(0),
         measure_next(1)]
REFUSED = [begin(0), begin(5), begin(TOP), gate(5, 0, 0), gate(AND, 9, 0), gate(AND, 0, TOP), gate(OR, 0, 0), test(8),
           test(TOP), seen(2, 0, 0), seen(0, 3, 0), seen(0, 0, 2), seen(0, 2, 0), explains(8), may(0, 2, 0), may(8, 0, 0),
           may(0, 0, 3), may(0, 0, 0), measure_next(2), measure_next(TOP)]
WHY = [-22, -22, -22, -22, -22, -22, -16, -22, -22, -2, -22, -22, -17, -22, -2, -22, -22, -61, -2, -2]
# The last gate shows a 1 in test 0 where it should show a 0.
TOLD = told(3, [(OR, 0, 0), (AND, 0, 1), (ONE_ALONE, 3, 4)], [(0, {2: 1}), (7, {})])


def plainly(calls):
    plain = Plain()
    return [plain.answer(call) for call in calls]


def a_number(chance, below):
    return chance.choice((chance.randrange(below), chance.randrange(below), chance.randrange(below), below, TOP))


def a_call(chance):
    """Any call, its numbers in their range, just out of it or far out of it."""
    call = chance.choice((0, 1, 1, 1, 1, 2, 2, 3, 3, 3, 3, 4, 5, 6, 7, 8, 8, 8, 9, 9))
    if call == 0:
        # Begun anew too often, no circuit grows.
        return begin(chance.randint(1, 2)) if chance.random() < 0.1 else begin(chance.choice((0, 5, TOP)))
    if call == 1:
        return gate(a_number(chance, 5), chance.randrange(5), chance.randrange(5))
    if call == 2:
        return test(a_number(chance, 4) if chance.random() < 0.4 else TOP)
    if call == 3:
        return seen(chance.randrange(4), chance.randrange(5), a_number(chance, 2))
    if call == 4:
        return explains(a_number(chance, 16))
    if call == 8:
        return may(a_number(chance, 16), a_number(chance, 3), a_number(chance, 4))
    return [call, chance.randrange(4)] if call == 9 else [call]


class AnyCalls(unittest.TestCase):
    def test_any_calls(self):
        chance = random.Random(71)
        met = {}
        for again in range(100):
            calls = [begin(chance.choice((0, 5)))] * chance.randrange(3) + [begin(chance.randint(1, 4))]
            calls += [a_call(chance) for k in range(100)]
            expected = plainly(calls)
            self.assertEqual(ask_lists(*calls), expected, calls)
            met.update({(call[0], min(one[0], 4)): True for call, one in zip(calls, expected)})
        for pair in [(0, 0), (0, -22), (1, 0), (1, -22), (1, -16), (2, 0), (2, -22), (3, 0), (3, -2), (3, -22), (3, -17),
                     (4, 0), (4, 1), (4, -22), (5, 1), (5, 2), (6, 0), (6, 1), (6, 2), (7, 0), (8, -2), (8, -22),
                     (8, -61), (8, 1), (8, 2), (8, 3), (9, -2), (9, -6), (9, 0), (9, 1)]:
            self.assertIn(pair, met)


class InBetween(unittest.TestCase):
    def test_refused_calls_change_nothing(self):
        got = ask_lists(*TOLD, *ASKED, *REFUSED, *ASKED)[len(TOLD):]
        self.assertEqual(got[len(ASKED):-len(ASKED)], [[why] for why in WHY])
        self.assertEqual(got[:len(ASKED)], got[-len(ASKED):])
        self.assertEqual(got[:len(ASKED)], plainly([*TOLD, *ASKED])[len(TOLD):])

    def test_each_refused_call_by_itself_changes_nothing(self):
        expected = plainly([*TOLD, *ASKED])[len(TOLD):]
        for call, why in zip(REFUSED, WHY):
            with self.subTest(call=call):
                self.assertEqual(ask_lists(*TOLD, call, *ASKED)[len(TOLD):], [[why], *expected])

    def test_asking_changes_nothing(self):
        expected = plainly([*TOLD, *ASKED])[len(TOLD):]
        for call in ASKED:
            with self.subTest(call=call):
                self.assertEqual(ask_lists(*TOLD, call, *ASKED)[len(TOLD) + 1:], expected)

    def test_asking_between_telling_changes_nothing(self):
        chance = random.Random(72)
        asked = [explains(0), least(), suspects(), sure(), may(0, 0, 0), measure_next(0)]
        for again in range(20):
            telling = told(2, some_gates(chance, 2, 5), some_tests(chance, 2, 5, 3, 0.5))
            apart = joined([call, chance.choice(asked), chance.choice(asked)] for call in telling)
            end = [least(), suspects(), sure(), *[measure_next(t) for t in range(3)]]
            self.assertEqual(ask_lists(*apart, *end)[-len(end):], ask_lists(*telling, *end)[-len(end):])


class BegunAgain(unittest.TestCase):
    def test_after_all_of_these_it_is_as_new(self):
        other = told(2, [(NOT_BOTH, 0, 1), (OR, 2, 1), (AND, 3, 3)], [(3, {1: 0}), (1, {2: 0})])
        got = ask_lists(*TOLD, *ASKED, *REFUSED, *other, *ASKED, *TOLD, *ASKED)
        self.assertEqual(got[-len(TOLD) - len(ASKED):], ask_lists(*TOLD, *ASKED))
        second = got[len(TOLD) + len(ASKED) + len(REFUSED):-len(TOLD) - len(ASKED)]
        self.assertEqual(second, ask_lists(*other, *ASKED))
        self.assertEqual(second, plainly([*other, *ASKED]))

    def test_nothing_is_there(self):
        asked = [explains(0), explains(1), least(), suspects(), sure(), may(0, 0, 0), measure_next(0), seen(0, 0, 0)]
        for inputs in (1, 2, 3, 4):
            got = ask_lists(*TOLD, *ASKED, begin(inputs), *asked)[-len(asked):]
            self.assertEqual(got, [[1], [-22], [1, 0], [0], [0, 0, 0], [-2], [-2], [-2]])

    def test_gates_and_tests_may_come_again(self):
        full = [*[gate(AND, 0, 1)] * 8, *[test(3)] * 6]
        got = ask_lists(begin(2), *full, gate(AND, 0, 1), test(3), least(), begin(2), *full, test(3), least())
        numbers = [[0], *[[k] for k in range(8)], *[[t] for t in range(6)]]
        self.assertEqual(got, [*numbers, [-16], [-28], [1, 0], *numbers, [-28], [1, 0]])


class LongLists(unittest.TestCase):
    """As many calls as there may be, on as large a circuit as there may be."""

    def full_circuit(self, chance, inputs, odds):
        return told(inputs, some_gates(chance, inputs, 8), some_tests(chance, inputs, 8, 6, odds))

    def test_each_call_asked_many_times(self):
        chance = random.Random(73)
        for odds in (0, 0.2, 0.5, 1):
            telling = self.full_circuit(chance, 4, odds)
            for call in [explains(255), explains(7), least(), suspects(), sure(), may(85, 3, 7), measure_next(5)]:
                with self.subTest(odds=odds, call=call):
                    many = MOST_CALLS - len(telling)
                    got = ask_lists(*telling, *[call] * many)
                    self.assertEqual(len(got), MOST_CALLS)
                    self.assertEqual(got[len(telling):], plainly([*telling, call])[-1:] * many)

    def test_all_calls_in_turn(self):
        chance = random.Random(74)
        telling = self.full_circuit(chance, 2, 0.2)
        calls = list(telling)
        while len(calls) < MOST_CALLS:
            calls += [explains(chance.randrange(256)), least(), suspects(), sure(), seen(6, 0, 0),
                      may(chance.randrange(256), chance.randrange(6), chance.randrange(8)),
                      measure_next(chance.randrange(6))]
        calls = calls[:MOST_CALLS]
        self.assertEqual(ask_lists(*calls), plainly(calls))

    def test_measured_one_by_one_and_asked_each_time(self):
        chance = random.Random(75)
        gates = some_gates(chance, 1, 8)
        calls = told(1, gates, [(t % 2, {}) for t in range(6)])
        for t, w in chance.sample([(t, w) for t in range(6) for w in range(8)], 24):
            calls += [seen(t, w, chance.randrange(2)), least(), suspects(), sure(), measure_next(chance.randrange(6)),
                      may(chance.randrange(256), t, chance.randrange(8)), explains(chance.randrange(256))]
        calls += [least()] * (MOST_CALLS - len(calls))
        self.assertEqual(len(calls), MOST_CALLS)
        self.assertEqual(ask_lists(*calls), plainly(calls))

    def test_begun_again_all_along(self):
        chance = random.Random(76)
        calls = []
        while len(calls) < MOST_CALLS:
            calls += told(1, some_gates(chance, 1, 8), some_tests(chance, 1, 8, 2, 0.3))
            calls += [least(), suspects(), sure(), measure_next(1)]
        calls = calls[:MOST_CALLS]
        self.assertEqual(ask_lists(*calls), plainly(calls))

    def test_the_list_is_as_it_was_and_gives_the_same_twice(self):
        chance = random.Random(77)
        lists = []
        for odds in (0.1, 0.3, 0.6):
            calls = self.full_circuit(chance, 3, odds)
            calls += [least(), suspects(), sure(), measure_next(0), may(3, 1, 2), begin(9)] * 8
            lists.append(joined(calls))
        copies = [list(one) for one in lists]
        first = [answers(one) for one in lists]
        for again in range(3):
            for k in (2, 0, 1):
                self.assertEqual(answers(lists[k]), first[k])
        self.assertEqual(lists, copies)
