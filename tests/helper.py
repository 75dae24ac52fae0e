"""What the tests share: how calls are written down, and the document's words worked out plainly."""

from itertools import product

from faultfinder.circuit import answers

TOP = 4294967295

AND, OR, ONE_ALONE, NOT_BOTH, NEITHER = range(5)

# By kind, what is given for the wires (a, b), written out.
SHOULD = {
    AND: {(0, 0): 0, (0, 1): 0, (1, 0): 0, (1, 1): 1},
    OR: {(0, 0): 0, (0, 1): 1, (1, 0): 1, (1, 1): 1},
    ONE_ALONE: {(0, 0): 0, (0, 1): 1, (1, 0): 1, (1, 1): 0},
    NOT_BOTH: {(0, 0): 1, (0, 1): 1, (1, 0): 1, (1, 1): 0},
    NEITHER: {(0, 0): 1, (0, 1): 0, (1, 0): 0, (1, 1): 0},
}


def begin(inputs):
    return [0, inputs]


def gate(kind, a, b):
    return [1, kind, a, b]


def test(inputs):
    return [2, inputs]


def seen(t, w, v):
    return [3, t, w, v]


def explains(broken):
    return [4, broken]


def joined(calls):
    return [number for call in calls for number in call]


def parted(numbers):
    """What was given back, a list for each call."""
    parts = []
    at = 0
    while at < len(numbers):
        end = at + 1 + numbers[at]
        parts.append(numbers[at + 1:end])
        at = end
    return parts


def ask(*calls):
    """What each call answers, where each answers one number."""
    parts = parted(answers(joined(calls)))
    if [len(part) for part in parts] != [1] * len(calls):
        raise AssertionError(f"not one number a call: {parts}")
    return [part[0] for part in parts]


def last(*calls):
    return ask(*calls)[-1]


def may_have_been(wires, inputs, gates, told, measured, broken):
    """Whether a test may have been so, each wire's value told, by the document's words."""
    if any(wires[k] != told >> k & 1 for k in range(inputs)):
        return False
    if any(wires[inputs + w] != v for w, v in measured.items()):
        return False
    for k, (kind, a, b) in enumerate(gates):
        if not broken >> k & 1 and wires[inputs + k] != SHOULD[kind][wires[a], wires[b]]:
            return False
    return True


def plainly_explains(inputs, gates, tests, broken):
    """Tries all ways of all wires; a test is (its inputs, what was measured by gate)."""
    return all(
        any(
            may_have_been(wires, inputs, gates, told, measured, broken)
            for wires in product((0, 1), repeat=inputs + len(gates))
        )
        for told, measured in tests
    )


class Plain:
    """The calls of promises 1 to 3, worked out as the document words them."""

    def __init__(self):
        self.inputs, self.gates, self.tests = 0, [], []

    def answer(self, call):
        return (self.begin, self.gate, self.test, self.seen, self.explains)[call[0]](*call[1:])

    def begin(self, inputs):
        if inputs not in (1, 2, 3, 4):
            return -22
        self.inputs, self.gates, self.tests = inputs, [], []
        return 0

    def gate(self, kind, a, b):
        if kind not in SHOULD or max(a, b) >= self.inputs + len(self.gates):
            return -22
        if self.tests:
            return -16
        if len(self.gates) == 8:
            return -28
        self.gates.append((kind, a, b))
        return len(self.gates) - 1

    def test(self, inputs):
        if inputs not in range(2 ** self.inputs):
            return -22
        if len(self.tests) == 6:
            return -28
        self.tests.append((inputs, {}))
        return len(self.tests) - 1

    def seen(self, t, w, v):
        if t not in range(len(self.tests)):
            return -2
        if w not in range(len(self.gates)) or v not in (0, 1):
            return -22
        if w in self.tests[t][1]:
            return -17
        self.tests[t][1][w] = v
        return 0

    def explains(self, broken):
        if broken not in range(2 ** len(self.gates)):
            return -22
        return int(plainly_explains(self.inputs, self.gates, self.tests, broken))
