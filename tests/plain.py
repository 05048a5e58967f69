"""A second, slow way to work circuits out: amplitudes as fractions, gates as matrices.

It shares no code with the package. A number is a list of four fractions
a, b, c, d: a + b w + c w^2 + d w^3, over nothing.
"""

from bisect import bisect_right
from fractions import Fraction
from math import ceil, floor, isqrt

# The root of 2 lies between these two, which are closer than any chances ever are.
ROOT_LOW = Fraction(isqrt(2 * 4 ** 1000), 2 ** 1000)
ROOT_HIGH = ROOT_LOW + Fraction(1, 2 ** 1000)


def number(a=0, b=0, c=0, d=0):
    return [Fraction(a), Fraction(b), Fraction(c), Fraction(d)]


def plus(x, y):
    return [p + q for p, q in zip(x, y)]


def times(x, y):
    product = [Fraction(0)] * 4
    for i, p in enumerate(x):
        for j, q in enumerate(y):
            # Most parts are 0, and fractions are slow.
            if p != 0 and q != 0:
                sign = -1 if i + j >= 4 else 1
                product[(i + j) % 4] += sign * p * q
    return product


ZERO = number()
ONE = number(1)
MINUS_ONE = number(-1)
ROOT = number(0, 1, 0, -1)
HALF_ROOT = [part / 2 for part in ROOT]

# Rows as DOC.md tells them: what stands at x becomes the first row's, at y the second's.
MATRICES = [
    [[ZERO, ONE], [ONE, ZERO]],
    [[ZERO, number(0, 0, -1)], [number(0, 0, 1), ZERO]],
    [[ONE, ZERO], [ZERO, MINUS_ONE]],
    [[ONE, ZERO], [ZERO, number(0, 0, 1)]],
    [[ONE, ZERO], [ZERO, number(0, 0, -1)]],
    [[ONE, ZERO], [ZERO, number(0, 1)]],
    [[ONE, ZERO], [ZERO, number(0, 0, 0, -1)]],
    [[HALF_ROOT, HALF_ROOT], [HALF_ROOT, times(MINUS_ONE, HALF_ROOT)]],
]


def size_squared(x):
    """What x times its conjugate is: fractions p, q of p + q times the root of 2."""
    product = times(x, [x[0], -x[3], -x[2], -x[1]])
    assert product[2] == 0 and product[3] == -product[1]
    return product[0], product[1]


def bounds(p, q):
    """Two fractions between which p + q times the root of 2 lies; both are it if q is 0."""
    return min(p + q * ROOT_LOW, p + q * ROOT_HIGH), max(p + q * ROOT_LOW, p + q * ROOT_HIGH)


def is_whole(amplitudes):
    return all(part.denominator == 1 for amplitude in amplitudes for part in amplitude)


def bits_of(number):
    return [i for i in range(40) if number >> i & 1]


class PlainState:
    def __init__(self, n, place):
        self.n = n
        self.amplitudes = [ZERO] * 2 ** n
        self.amplitudes[place] = ONE

    def least(self):
        """k and the whole amplitudes over the root of 2 to the power k."""
        k = 0
        scaled = self.amplitudes
        widest = max(part.denominator for amplitude in scaled for part in amplitude)
        if widest > 1:
            # Half of the widest, a power of 2, still leaves a fraction: no smaller k need be tried.
            k = 2 * (widest.bit_length() - 2)
            scaled = [[part * (widest // 2) for part in amplitude] for amplitude in scaled]
        while not is_whole(scaled):
            scaled = [times(amplitude, ROOT) for amplitude in scaled]
            k += 1
        return k, [tuple(int(part) for part in amplitude) for amplitude in scaled]

    def refuses(self, kind, target, on, off):
        if kind not in range(8) or target not in range(self.n):
            return True
        told = bits_of(on) + bits_of(off) + [target]
        return max(told) >= self.n or len(set(told)) != len(told)

    def gate(self, kind, target, on, off):
        if self.refuses(kind, target, on, off):
            return -1
        before = self.amplitudes
        self.amplitudes = list(before)
        rows = MATRICES[kind]
        for place in range(2 ** self.n):
            if place & on == on and place & off == 0:
                side = place >> target & 1
                x = before[place - (side << target)]
                y = before[place - (side << target) + (1 << target)]
                row = rows[side]
                self.amplitudes[place] = plus(times(row[0], x), times(row[1], y))
        if self.least()[0] > 120:
            self.amplitudes = before
            return -2
        return 0

    def beside(self, higher):
        """This state and another one as one state, the other's qubits above this one's."""
        both = PlainState(self.n + higher.n, 0)
        both.amplitudes = [times(low, high) for high in higher.amplitudes for low in self.amplitudes]
        return both

    def amplitude(self, place):
        k, amplitudes = self.least()
        return [k, *amplitudes[place]] if place < 2 ** self.n else [-1]

    def chance(self, mask, value):
        bits = bits_of(mask)
        if any(bit >= self.n for bit in bits) or any(bit not in bits for bit in bits_of(value)):
            return [-1]
        k = self.least()[0]
        p, q = Fraction(0), Fraction(0)
        for place, amplitude in enumerate(self.amplitudes):
            if all(place >> i & 1 == value >> i & 1 for i in bits):
                more = size_squared(amplitude)
                p, q = p + more[0], q + more[1]
        assert (p * 2 ** k).denominator == (q * 2 ** k).denominator == 1
        return [k, int(p * 2 ** k), int(q * 2 ** k)]

    def ends(self):
        """For each place the least number that draw does not answer by it or a place before it."""
        p, q = Fraction(0), Fraction(0)
        found = []
        for amplitude in self.amplitudes:
            more = size_squared(amplitude)
            p, q = p + more[0], q + more[1]
            low, high = bounds(p * 2 ** 64, q * 2 ** 64)
            assert q == 0 or floor(low) == floor(high)
            found.append(ceil(high))
        return found

    def draw(self, number):
        return bisect_right(self.ends(), number)
