"""Which part of a circuit is broken: the calls on one circuit, and what they answer."""

BEGIN = 0
GATE = 1
TEST = 2
SEEN = 3
EXPLAINS = 4
LEAST = 5
SUSPECTS = 6
SURE = 7
MAY = 8
NEXT = 9

# How many numbers are handed over with each call, by the call's number.
HANDED_OVER = (1, 3, 1, 3, 1, 0, 0, 0, 3, 1)

NOT_THERE = -2
ALL_MEASURED = -6
BUSY = -16
MEASURED_ALREADY = -17
NOT_VALID = -22
FULL = -28
NO_WAY = -61

MOST_INPUTS = 4
MOST_GATES = 8
MOST_TESTS = 6

# What a gate of each kind gives when none, one or both of its wires are 1:
# no kind tells its two wires apart, so counting the ones is enough.
GIVES = (
    (0, 0, 1),
    (0, 1, 1),
    (0, 1, 0),
    (1, 1, 0),
    (1, 0, 0),
)


class Gate:
    """A gate's kind and the two wires that it takes."""

    def __init__(self, kind, a, b):
        self.kind = kind
        self.a = a
        self.b = b

    def should_give(self, wires):
        return GIVES[self.kind][wires[self.a] + wires[self.b]]


class Way:
    """One way that a test may have been: the set of gates that gave the wrong value, and what each gate gave."""

    def __init__(self, wrong, gave):
        self.wrong = wrong
        self.gave = gave


class Test:
    """A test: the gates measured in it, and the ways it may have been by what was measured so far."""

    def __init__(self, ways):
        self.ways = ways
        self.measured = {}

    def measure(self, gate, value):
        self.measured[gate] = True
        self.ways = [way for way in self.ways if way.gave[gate] == value]

    def ways_with(self, broken):
        return [way for way in self.ways if way.wrong | broken == broken]

    def unmeasured_of(self, gates):
        return [w for w in range(gates) if w not in self.measured]


class Circuit:
    """The object that a list of calls speaks to."""

    def __init__(self):
        self.inputs = 0
        self.gates = []
        self.tests = []

    def begin(self, inputs):
        if inputs < 1 or inputs > MOST_INPUTS:
            return NOT_VALID
        self.inputs = inputs
        self.gates = []
        self.tests = []
        return 0

    def gate(self, kind, a, b):
        wires = self.inputs + len(self.gates)
        if kind >= len(GIVES) or a >= wires or b >= wires:
            return NOT_VALID
        if len(self.tests) > 0:
            return BUSY
        if len(self.gates) == MOST_GATES:
            return FULL
        self.gates.append(Gate(kind, a, b))
        return len(self.gates) - 1

    def test(self, inputs):
        if has_bit_from(inputs, self.inputs):
            return NOT_VALID
        if len(self.tests) == MOST_TESTS:
            return FULL
        self.tests.append(Test(self.all_ways(inputs)))
        return len(self.tests) - 1

    def seen(self, t, w, v):
        if t >= len(self.tests):
            return NOT_THERE
        if w >= len(self.gates) or v > 1:
            return NOT_VALID
        if w in self.tests[t].measured:
            return MEASURED_ALREADY
        self.tests[t].measure(w, v)
        return 0

    def explains(self, broken):
        if has_bit_from(broken, len(self.gates)):
            return NOT_VALID
        return 1 if self.explains_all(broken) else 0

    def explains_all(self, broken):
        for test in self.tests:
            if len(test.ways_with(broken)) == 0:
                return False
        return True

    def least(self):
        return least_of(self.explaining())

    def suspects(self):
        explaining = self.explaining()
        every = len(explaining) - 1
        return least_of([not explaining[every ^ suspected] for suspected in range(len(explaining))])

    def sure(self):
        every = (1 << len(self.gates)) - 1
        in_all = every
        in_some = 0
        for broken in self.least():
            in_all = in_all & broken
            in_some = in_some | broken
        return [0, in_all, every ^ in_some]

    def may(self, broken, t, w):
        if t >= len(self.tests):
            return NOT_THERE
        if has_bit_from(broken, len(self.gates)) or w >= len(self.gates):
            return NOT_VALID
        ways = self.tests[t].ways_with(broken)
        if len(ways) == 0:
            return NO_WAY
        return could_give(ways, w)

    def measure_next(self, t):
        if t >= len(self.tests):
            return [NOT_THERE]
        unmeasured = self.tests[t].unmeasured_of(len(self.gates))
        if len(unmeasured) == 0:
            return [ALL_MEASURED]
        # Measuring changes no other test, so a least explanation still
        # explains it all if one of its ways in this test is left.
        ways_of_each = [self.tests[t].ways_with(broken) for broken in self.least()]
        # Of like ones min takes the first, and these stand in the gates' order.
        return min([[w] + counts_left(ways_of_each, w) for w in unmeasured], key=greater_count)

    def explaining(self):
        """For each set of gates, whether it explains it all."""
        # All sets at once: to ask the ways for each set by itself takes long.
        sets = 1 << len(self.gates)
        explained = [0] * sets
        for t, test in enumerate(self.tests):
            for way in test.ways:
                explained[way.wrong] = explained[way.wrong] | 1 << t
        # More broken explain more. A set's parts are lesser numbers, so what
        # they explain is told in full when the set's turn comes.
        for broken in range(sets):
            for part in parts_lacking_one(broken):
                explained[broken] = explained[broken] | explained[part]
        every_test = (1 << len(self.tests)) - 1
        return [tests == every_test for tests in explained]

    def all_ways(self, inputs):
        # With the inputs told, which gates are wrong settles every wire: so
        # there is just one way for each set of gates, and none is left out.
        # No gate comes once there is a test, so the ways stay the same.
        return [self.way(inputs, wrong) for wrong in range(1 << len(self.gates))]

    def way(self, inputs, wrong):
        wires = [bit_of(inputs, k) for k in range(self.inputs)]
        for k, gate in enumerate(self.gates):
            wires.append(gate.should_give(wires) ^ bit_of(wrong, k))
        return Way(wrong, wires[self.inputs:])


def bit_of(bits, k):
    return bits >> k & 1


def has_bit_from(bits, k):
    return bits >> k > 0


def gates_of(bits):
    return [k for k in range(MOST_GATES) if bit_of(bits, k)]


def parts_lacking_one(bits):
    return [bits ^ 1 << k for k in gates_of(bits)]


def how_many_gates(bits):
    return len(gates_of(bits))


def least_of(fitting):
    """The sets that fit and of which no part does that lacks some gate, in the order in which sets are told."""
    # Where a set fits, so does each with more gates: so it is enough to ask
    # the parts that lack just one.
    least = []
    for bits, fits in enumerate(fitting):
        if fits and not any([fitting[part] for part in parts_lacking_one(bits)]):
            least.append(bits)
    # Like ones keep their order, the lesser number first.
    return sorted(least, key=how_many_gates)


def could_give(ways, w):
    """Bit v tells whether gate w gave v in one of the ways."""
    values = 0
    for way in ways:
        values = values | 1 << way.gave[w]
    return values


def counts_left(ways_of_each, w):
    """Of how many explanations, told by their ways, some way is left if gate w's wire is 0, and if 1."""
    could = [could_give(ways, w) for ways in ways_of_each]
    return [sum([bit_of(values, v) for values in could]) for v in range(2)]


def greater_count(found):
    return max(found[1], found[2])


def counted(numbers):
    return [len(numbers)] + numbers


def answer(circuit, call, numbers):
    """All numbers that one call answers."""
    if call == BEGIN:
        return [circuit.begin(numbers[0])]
    if call == GATE:
        return [circuit.gate(numbers[0], numbers[1], numbers[2])]
    if call == TEST:
        return [circuit.test(numbers[0])]
    if call == SEEN:
        return [circuit.seen(numbers[0], numbers[1], numbers[2])]
    if call == EXPLAINS:
        return [circuit.explains(numbers[0])]
    if call == LEAST:
        return counted(circuit.least())
    if call == SUSPECTS:
        return counted(circuit.suspects())
    if call == SURE:
        return circuit.sure()
    if call == MAY:
        return [circuit.may(numbers[0], numbers[1], numbers[2])]
    return circuit.measure_next(numbers[0])


def answers(calls):
    """For each call, in order, how many numbers are answered, and these."""
    circuit = Circuit()
    given_back = []
    at = 0
    while at < len(calls):
        call = calls[at]
        end = at + 1 + HANDED_OVER[call]
        answered = answer(circuit, call, calls[at + 1:end])
        given_back.append(len(answered))
        given_back.extend(answered)
        at = end
    return given_back
