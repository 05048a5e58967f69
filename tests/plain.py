"""A second, slow way to work circuits out: amplitudes as fractions, gates as matrices.

It shares no code with the package. A number is a list of four fractions
a, b, c, d: a + b w + c w^2 + d w^3, over nothing.
"""

from fractions import Fraction


def number(a=0, b=0, c=0, d=0):
    return [Fraction(a), Fraction(b), Fraction(c), Fraction(d)]


def plus(x, y):
    return [p + q for p, q in zip(x, y)]


def times(x, y):
    product = [Fraction(0)] * 4
    for i, p in enumerate(x):
        for j, q in enumerate(y):
            # Most parts are 0, and fractions are slow.
            if p != 0 and q != 0:
                sign = -1 if i + j >= 4 else 1
                product[(i + j) % 4] += sign * p * q
    return product


ZERO = number()
ONE = number(1)
MINUS_ONE = number(-1)
ROOT = number(0, 1, 0, -1)
HALF_ROOT = [part / 2 for part in ROOT]

# Rows as DOC.md tells them: what stands at x becomes the first row's, at y the second's.
MATRICES = [
    [[ZERO, ONE], [ONE, ZERO]],
    [[ZERO, number(0, 0, -1)], [number(0, 0, 1), ZERO]],
    [[ONE, ZERO], [ZERO, MINUS_ONE]],
    [[ONE, ZERO], [ZERO, number(0, 0, 1)]],
    [[ONE, ZERO], [ZERO, number(0, 0, -1)]],
    [[ONE, ZERO], [ZERO, number(0, 1)]],
    [[ONE, ZERO], [ZERO, number(0, 0, 0, -1)]],
    [[HALF_ROOT, HALF_ROOT], [HALF_ROOT, times(MINUS_ONE, HALF_ROOT)]],
]


def is_whole(amplitudes):
    return all(part.denominator == 1 for amplitude in amplitudes for part in amplitude)


class PlainState:
    def __init__(self, n, place):
        self.n = n
        self.amplitudes = [ZERO] * 2 ** n
        self.amplitudes[place] = ONE

    def least(self):
        """k and the whole amplitudes over the root of 2 to the power k."""
        k = 0
        scaled = self.amplitudes
        while not is_whole(scaled):
            scaled = [times(amplitude, ROOT) for amplitude in scaled]
            k += 1
        return k, [tuple(int(part) for part in amplitude) for amplitude in scaled]

    def refuses(self, kind, target, on, off):
        if kind not in range(8) or target not in range(self.n):
            return True
        bits_on = [i for i in range(40) if on >> i & 1]
        bits_off = [i for i in range(40) if off >> i & 1]
        told = bits_on + bits_off + [target]
        return max(told) >= self.n or len(set(told)) != len(told)

    def gate(self, kind, target, on, off):
        if self.refuses(kind, target, on, off):
            return -1
        before = self.amplitudes
        self.amplitudes = list(before)
        rows = MATRICES[kind]
        for place in range(2 ** self.n):
            if place & on == on and place & off == 0:
                side = place >> target & 1
                x = before[place - (side << target)]
                y = before[place - (side << target) + (1 << target)]
                row = rows[side]
                self.amplitudes[place] = plus(times(row[0], x), times(row[1], y))
        if self.least()[0] > 120:
            self.amplitudes = before
            return -2
        return 0
