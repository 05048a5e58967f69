"""The state of a few qubits, and the calls on it."""

from fewqubits.circuit import told_gate, words
from fewqubits.exact import ONE, ZERO, added, all_hold_root, is_below, over_root, squared_sizes, subtracted
from fewqubits.exact import times_root, turned

DONE = 0
REFUSED = -1
TOO_FINE = -2
TOO_LONG = -65537

MOST_QUBITS = 10
MOST_K = 120
LONGEST_TEXT = 65536
DRAWN_BITS = 64

X = 0
Y = 1
H = 7
LAST_KIND = 7

# The kinds that only turn the amplitudes with the target's bit: by how many eighths.
TURNS = {2: 4, 3: 2, 4: 6, 5: 1, 6: 7}

# The calls' numbers.
BEGIN = 0
GATE = 1
RUN = 2
AMPLITUDE = 3
CHANCE = 4
DRAW = 5

# How many numbers each call has, its own number among them; the bytes of run's text come on top.
LENGTHS = (3, 5, 2, 2, 3, 2)


class State:
    """The amplitudes of each place, all over the root of 2 to the power k, kept least."""

    def __init__(self):
        self.qubits = 0
        self.k = 0
        self.amplitudes = []

    def begin(self, n, place):
        """Make it a state of n qubits that is 1 at place."""
        # n is looked at first: shifting by a number far off would fail.
        if n < 1 or n > MOST_QUBITS or place >= 1 << n:
            return REFUSED
        self.qubits = n
        self.k = 0
        self.amplitudes = [ZERO] * (1 << n)
        self.amplitudes[place] = ONE
        return DONE

    def gate(self, kind, target, on, off):
        """Do one gate, where all bits of on are 1 and all of off are 0."""
        if not self.allows(kind, target, on, off):
            return REFUSED
        bit = 1 << target
        fixed = bit | on | off
        places = [p for p in range(1 << self.qubits) if p & fixed == on]
        xs = [self.amplitudes[p] for p in places]
        ys = [self.amplitudes[p | bit] for p in places]
        if kind == H:
            return self.mix(places, bit, xs, ys)
        # Turning and swapping leave a least state least: only H changes k.
        if kind == X:
            self.put(places, bit, ys, xs)
        elif kind == Y:
            self.put(places, bit, turned(ys, 6), turned(xs, 2))
        else:
            self.put(places, bit, xs, turned(ys, TURNS[kind]))
        return DONE

    def run(self, text):
        """Do the gates that a text tells, up to the first that can't be done."""
        if len(text) > LONGEST_TEXT:
            return TOO_LONG
        done = 0
        for word in words(text):
            parts = told_gate(word)
            if parts is None or self.gate(parts[0], parts[1], parts[2], parts[3]) != DONE:
                return -1 - done
            done = done + 1
        return done

    def amplitude(self, place):
        """k, and a, b, c, d of the amplitude at place, as a list."""
        if place >= 1 << self.qubits:
            return [REFUSED]
        return [self.k] + list(self.amplitudes[place])

    def chance(self, mask, value):
        """k, and x and y of how likely the qubits of mask are seen as value's bits, as a list."""
        if (mask | value) >> self.qubits != 0 or value & mask != value:
            return [REFUSED]
        seen = [self.amplitudes[p] for p in range(1 << self.qubits) if p & mask == value]
        sizes = squared_sizes(seen)
        return [self.k, sum([x for x, y in sizes]), sum([y for x, y in sizes])]

    def draw(self, number):
        """The least place for which number / 2^64 is below the chances up to it together."""
        sizes = squared_sizes(self.amplitudes)
        place = -1
        x = 0
        y = 0
        # Both sides are taken times 2^64 and 2^k, so that they stay whole.
        while not is_below(number << self.k, x << DRAWN_BITS, y << DRAWN_BITS):
            place = place + 1
            x = x + sizes[place][0]
            y = y + sizes[place][1]
        return place

    def allows(self, kind, target, on, off):
        """Whether there is such a gate on this many qubits."""
        if kind < 0 or kind > LAST_KIND or target < 0 or target >= self.qubits:
            return False
        if (on | off) >> self.qubits != 0:
            return False
        return (on | off) & (1 << target) == 0 and on & off == 0

    def put(self, places, bit, xs, ys):
        """Put each x at its place, and each y at the same place with the bit."""
        for place, x, y in zip(places, xs, ys):
            self.amplitudes[place] = x
            self.amplitudes[place | bit] = y

    def mix(self, places, bit, xs, ys):
        """The gate H on the amplitudes xs and ys of the places without and with the bit."""
        sums = added(xs, ys)
        differences = subtracted(xs, ys)
        # A difference is its sum less 2 y, and 2 y holds the root: the sums tell of both.
        if all_hold_root(sums):
            self.put(places, bit, over_root(sums), over_root(differences))
            self.lessen()
            return DONE
        # Some sum does not hold the root, so at k + 1 the state is least already.
        if self.k == MOST_K:
            return TOO_FINE
        self.amplitudes = times_root(self.amplitudes)
        self.put(places, bit, sums, differences)
        self.k = self.k + 1
        return DONE

    def lessen(self):
        """Make the state least."""
        while self.k > 0 and all_hold_root(self.amplitudes):
            self.amplitudes = over_root(self.amplitudes)
            self.k = self.k - 1


def call_length(calls, at):
    """How many numbers the call that begins at this index has, its own number among them."""
    length = LENGTHS[calls[at]]
    if calls[at] == RUN:
        length = length + calls[at + 1]
    return length


def answer(state, call):
    """What the state answers to one call, as a list."""
    if call[0] == BEGIN:
        return [state.begin(call[1], call[2])]
    if call[0] == GATE:
        return [state.gate(call[1], call[2], call[3], call[4])]
    if call[0] == RUN:
        return [state.run(call[2:])]
    if call[0] == AMPLITUDE:
        return state.amplitude(call[1])
    if call[0] == CHANCE:
        return state.chance(call[1], call[2])
    return [state.draw(call[1])]


def answers(calls):
    """The answers to a list of calls on one new state, each with its count before it."""
    state = State()
    given = []
    at = 0
    while at < len(calls):
        end = at + call_length(calls, at)
        numbers = answer(state, calls[at:end])
        given.append(len(numbers))
        given.extend(numbers)
        at = end
    return given
