"""What the tests share: how calls are written down, and the document's words worked out plainly."""

from functools import lru_cache
from itertools import product

from faultfinder.circuit import answers

TOP = 4294967295

AND, OR, ONE_ALONE, NOT_BOTH, NEITHER = range(5)

# By kind, what is given for the wires (a, b), written out.
SHOULD = {
    AND: {(0, 0): 0, (0, 1): 0, (1, 0): 0, (1, 1): 1},
    OR: {(0, 0): 0, (0, 1): 1, (1, 0): 1, (1, 1): 1},
    ONE_ALONE: {(0, 0): 0, (0, 1): 1, (1, 0): 1, (1, 1): 0},
    NOT_BOTH: {(0, 0): 1, (0, 1): 1, (1, 0): 1, (1, 1): 0},
    NEITHER: {(0, 0): 1, (0, 1): 0, (1, 0): 0, (1, 1): 0},
}


def begin(inputs):
    return [0, inputs]


def gate(kind, a, b):
    return [1, kind, a, b]


def test(inputs):
    return [2, inputs]


def seen(t, w, v):
    return [3, t, w, v]


def explains(broken):
    return [4, broken]


def least():
    return [5]


def suspects():
    return [6]


def sure():
    return [7]


def may(broken, t, w):
    return [8, broken, t, w]


def measure_next(t):
    return [9, t]


def told(inputs, gates, tests):
    """The calls that tell a circuit: its gates (kind, a, b), and of each test its inputs and what was measured by gate."""
    calls = [begin(inputs)]
    calls += [gate(*one) for one in gates]
    calls += [test(bits) for bits, measured in tests]
    return calls + [seen(t, w, v) for t, (bits, measured) in enumerate(tests) for w, v in measured.items()]


def some_gates(chance, inputs, many):
    return [(chance.randrange(5), chance.randrange(inputs + k), chance.randrange(inputs + k)) for k in range(many)]


def some_tests(chance, inputs, gates, many, odds):
    return [
        (chance.randrange(2 ** inputs), {w: chance.randrange(2) for w in range(gates) if chance.random() < odds})
        for t in range(many)
    ]


def two_gate_circuits():
    """All circuits of two gates on one input, measured in one test in all ways."""
    measures = [{}, {0: 0}, {0: 1}, {1: 0}, {1: 1}, {0: 0, 1: 0}, {0: 0, 1: 1}, {0: 1, 1: 0}, {0: 1, 1: 1}]
    for kind, later, a, b in product(range(5), range(5), (0, 1), (0, 1)):
        for bits, measured in product((0, 1), measures):
            yield 1, [(kind, 0, 0), (later, a, b)], [(bits, measured)]


def some_circuits(chance, many, gates, tests, odds):
    """So many circuits of at least and at most so many gates and tests, measured as often as one of the odds says."""
    for again in range(many):
        inputs, how_many = chance.randint(1, 4), chance.randint(*gates)
        made = some_gates(chance, inputs, how_many)
        yield inputs, made, some_tests(chance, inputs, how_many, chance.randint(*tests), chance.choice(odds))


def joined(calls):
    return [number for call in calls for number in call]


def parted(numbers):
    """What was given back, a list for each call."""
    parts = []
    at = 0
    while at < len(numbers):
        end = at + 1 + numbers[at]
        parts.append(numbers[at + 1:end])
        at = end
    return parts


def ask_lists(*calls):
    """The list of what each call answers."""
    parts = parted(answers(joined(calls)))
    if len(parts) != len(calls):
        raise AssertionError(f"not one answer a call: {parts}")
    return parts


def ask(*calls):
    """What each call answers, where each answers one number."""
    parts = ask_lists(*calls)
    if any(len(part) != 1 for part in parts):
        raise AssertionError(f"not one number a call: {parts}")
    return [part[0] for part in parts]


def last(*calls):
    return ask(*calls)[-1]


def last_list(*calls):
    return ask_lists(*calls)[-1]


@lru_cache(maxsize=4000)
def fits_what_is_told(inputs, many, bits, measured):
    """All ways of all wires in which the inputs are as told, and what was measured as measured."""
    return [
        wires for wires in product((0, 1), repeat=inputs + many)
        if all(wires[k] == bits >> k & 1 for k in range(inputs)) and all(wires[inputs + w] == v for w, v in measured)
    ]


def gives_what_it_should(wires, at, told_gate):
    kind, a, b = told_gate
    return wires[at] == SHOULD[kind][wires[a], wires[b]]


@lru_cache(maxsize=40000)
def ways_of(inputs, gates, bits, measured, broken):
    """All ways that a test may have been with a set broken, by the document's words."""
    return [
        wires for wires in fits_what_is_told(inputs, len(gates), bits, measured)
        if all(broken >> k & 1 or gives_what_it_should(wires, inputs + k, one) for k, one in enumerate(gates))
    ]


def plain_ways(inputs, gates, one_test, broken):
    bits, measured = one_test
    return ways_of(inputs, tuple(gates), bits, tuple(sorted(measured.items())), broken)


def plainly_explains(inputs, gates, tests, broken):
    return all(plain_ways(inputs, gates, one, broken) for one in tests)


def parts_of(bits):
    """All parts of a set that lack some gate."""
    return [part for part in range(bits) if part & bits == part]


def in_order(sets):
    return sorted(sets, key=lambda bits: (bin(bits).count("1"), bits))


def least_among(sets):
    return in_order(bits for bits in sets if not any(part in sets for part in parts_of(bits)))


class Plain:
    """All calls, worked out as the document words them; each answers a list."""

    def __init__(self, inputs=0, gates=(), tests=()):
        self.inputs, self.gates, self.tests = inputs, list(gates), list(tests)

    def answer(self, call):
        told_calls = (self.begin, self.gate, self.test, self.seen, self.explains, self.least, self.suspects, self.sure,
                      self.may, self.measure_next)
        answered = told_calls[call[0]](*call[1:])
        return answered if isinstance(answered, list) else [answered]

    def begin(self, inputs):
        if inputs not in (1, 2, 3, 4):
            return -22
        self.inputs, self.gates, self.tests = inputs, [], []
        return 0

    def gate(self, kind, a, b):
        if kind not in SHOULD or max(a, b) >= self.inputs + len(self.gates):
            return -22
        if self.tests:
            return -16
        if len(self.gates) == 8:
            return -28
        self.gates.append((kind, a, b))
        return len(self.gates) - 1

    def test(self, inputs):
        if inputs not in range(2 ** self.inputs):
            return -22
        if len(self.tests) == 6:
            return -28
        self.tests.append((inputs, {}))
        return len(self.tests) - 1

    def seen(self, t, w, v):
        if t not in range(len(self.tests)):
            return -2
        if w not in range(len(self.gates)) or v not in (0, 1):
            return -22
        if w in self.tests[t][1]:
            return -17
        self.tests[t][1][w] = v
        return 0

    def sets(self):
        return range(2 ** len(self.gates))

    def explains_with(self, tests, broken):
        return plainly_explains(self.inputs, self.gates, tests, broken)

    def explains(self, broken):
        if broken not in self.sets():
            return -22
        return int(self.explains_with(self.tests, broken))

    def least_explanations(self):
        return least_among({broken for broken in self.sets() if self.explains_with(self.tests, broken)})

    def least(self):
        found = self.least_explanations()
        return [len(found), *found]

    def suspects(self):
        every = self.sets()[-1]
        found = least_among({bits for bits in self.sets() if not self.explains_with(self.tests, every - bits)})
        return [len(found), *found]

    def sure(self):
        found = self.least_explanations()
        in_all = [k for k in range(len(self.gates)) if all(broken >> k & 1 for broken in found)]
        in_none = [k for k in range(len(self.gates)) if not any(broken >> k & 1 for broken in found)]
        return [0, sum(2 ** k for k in in_all), sum(2 ** k for k in in_none)]

    def may(self, broken, t, w):
        if t not in range(len(self.tests)):
            return -2
        if broken not in self.sets() or w not in range(len(self.gates)):
            return -22
        values = {wires[self.inputs + w] for wires in plain_ways(self.inputs, self.gates, self.tests[t], broken)}
        return {(): -61, (0,): 1, (1,): 2, (0, 1): 3}[tuple(sorted(values))]

    def left_if(self, t, w, v):
        bits, measured = self.tests[t]
        tests = [*self.tests[:t], (bits, {**measured, w: v}), *self.tests[t + 1:]]
        return sum(self.explains_with(tests, broken) for broken in self.least_explanations())

    def measure_next(self, t):
        if t not in range(len(self.tests)):
            return -2
        best = None
        for w in range(len(self.gates)):
            if w not in self.tests[t][1]:
                left = [self.left_if(t, w, 0), self.left_if(t, w, 1)]
                if best is None or max(left) < max(best[1:]):
                    best = [w, *left]
        return -6 if best is None else best
