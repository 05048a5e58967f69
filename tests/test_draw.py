import unittest
from bisect import bisect_right
from fractions import Fraction
from math import isqrt

from fewqubits.state import answers
from tests.calls import amplitude, asked, begin, chance, draw, gate, run
from tests.plain import PlainState, bounds, size_squared
from tests.ways import LETTERS, all_gates, calls_of, mixing_way, on_qubit, plain_after, plain_qubit, random_way
from tests.ways import side_by_side, text_of

LAST = 2 ** 64 - 1
HALF = 2 ** 63

# On one qubit these leave k 7 and a chance of (58 - 41 times the root of 2) / 2^7, below 2^-12, at place 0.
TINY = "HTHTHTHTHSHTHTHTHTSHTHTHTHX"


class DrawTest(unittest.TestCase):
    def check(self, before, plain):
        """Numbers at both ends, and on both sides of where one place ends and the next begins."""
        ends = plain.ends()
        self.assertEqual(ends[-1], 2 ** 64)
        near = {end + step for end in ends for step in (-2, -1, 0, 1)} | {0, 1, 2, HALF, LAST - 1, LAST}
        numbers = sorted(number for number in near if 0 <= number <= LAST)
        given = asked(before, [draw(number) for number in numbers])
        self.assertEqual(given, [[bisect_right(ends, number)] for number in numbers])

    def check_way(self, n, place, way):
        self.check(calls_of(n, place, way), plain_after(n, place, way))


class OrdinaryTest(DrawTest):
    def test_form(self):
        self.assertEqual(answers(begin(1, 0) + run("H0") + draw(0) + draw(LAST)), [1, 0, 1, 1, 1, 0, 1, 1])

    def test_one_place_alone(self):
        for n in range(1, 11):
            for place in {0, 1, 2 ** n // 2, 2 ** n - 1}:
                given = asked(begin(n, place), [draw(number) for number in (0, 1, HALF - 1, HALF, LAST - 1, LAST)])
                self.assertEqual(given, [[place]] * 6)

    def test_halves(self):
        numbers = (0, 1, HALF - 1, HALF, HALF + 1, LAST)
        questions = [draw(number) for number in numbers]
        self.assertEqual(asked(begin(1, 0) + run("H0"), questions), [[0], [0], [0], [1], [1], [1]])
        self.assertEqual(asked(begin(1, 1) + run("H0"), questions), [[0], [0], [0], [1], [1], [1]])
        # No chance at the beginning, in the middle and at the end: places 1 and 6 of eight.
        self.assertEqual(asked(begin(3, 0) + run("H0 X1+0 X2+0 X0"), questions), [[1], [1], [1], [6], [6], [6]])
        # Only at the beginning; only in the middle; only at the end.
        self.assertEqual(asked(begin(2, 2) + run("H0"), questions), [[2], [2], [2], [3], [3], [3]])
        self.assertEqual(asked(begin(2, 0) + run("H0 X1+0"), questions), [[0], [0], [0], [3], [3], [3]])
        self.assertEqual(asked(begin(2, 0) + run("H0"), questions), [[0], [0], [0], [1], [1], [1]])

    def test_all_places_alike(self):
        for n in (1, 2, 5, 10):
            width = 2 ** (64 - n)
            numbers = [0, 1, width - 1, width, width + 1, 2 * width - 1, HALF - 1, HALF, LAST - width, LAST - width + 1, LAST]
            given = asked(begin(n, 0) + run(text_of(["H"] * n)), [draw(number) for number in numbers])
            self.assertEqual(given, [[number // width] for number in numbers])

    def test_drawing_changes_nothing(self):
        calls = begin(2, 0)
        for kind, target, on, off in mixing_way(2):
            calls += draw(HALF) + gate(kind, target, on, off) + draw(LAST)
        questions = [amplitude(place) for place in range(4)] + [draw(HALF), draw(HALF)]
        self.assertEqual(asked(calls, questions), asked(calls_of(2, 0, mixing_way(2)), questions))


class BesideThePlainWayTest(DrawTest):
    def test_mixed_states(self):
        for n in (1, 2, 3, 4):
            self.check_way(n, 0, mixing_way(n))

    def test_behind_every_gate(self):
        for n in (1, 2):
            for one in all_gates(n):
                self.check_way(n, 0, mixing_way(n) + [one])

    def test_long_ways(self):
        gaps = 0
        for seed in range(300, 330):
            n = 1 + seed % 4
            self.check_way(n, seed % 2 ** n, random_way(seed, n, 35))
            gaps += plain_after(n, seed % 2 ** n, random_way(seed, n, 35)).amplitudes.count([0, 0, 0, 0])
        self.assertGreater(gaps, 10)

    def test_gaps_between_chances_with_a_root(self):
        # Chances with the root of 2 at four places of sixteen: none at the beginning, the middle or the end.
        letters = "H0 T0 H0 H1 T1 H1 S1 H1 T1 H1 X2-1 X3+1"
        way = [(LETTERS.index(word[0]), int(word[1]), 0, 0) for word in letters.split()[:-2]]
        way += [(0, 2, 0, 2), (0, 3, 2, 0)]
        ends = plain_after(4, 0, way).ends()
        places = [place for place in range(16) if ends[place] != (ends[place - 1] if place > 0 else 0)]
        self.assertEqual(places, [4, 5, 10, 11])
        self.check_way(4, 0, way)
        self.assertEqual(asked(begin(4, 0) + run(letters), [draw(0), draw(LAST)]), [[4], [11]])

    def test_roots_that_end_together(self):
        # Places 0 and 1 have (2 + root) / 8 and (2 - root) / 8: together just a half.
        before = begin(2, 0) + run("H0 T0 H0 H1")
        self.assertEqual(asked(before, [chance(3, 0), chance(3, 1)]), [[3, 2, 1], [3, 2, -1]])
        self.assertEqual(asked(before, [draw(HALF - 1), draw(HALF), draw(HALF + 1)]), [[1], [2], [2]])
        # The first place ends at 2^61 times (2 + root), between these two numbers.
        before_end = 2 ** 62 + isqrt(2 * 2 ** 122)
        self.assertEqual(asked(before, [draw(before_end), draw(before_end + 1)]), [[0], [1]])


class ExactTest(DrawTest):
    def test_the_tiny_chance(self):
        self.assertEqual(asked(begin(1, 0) + run(on_qubit(TINY, 0)), [chance(1, 0)]), [[7, 58, -41]])
        self.check(begin(1, 0) + run(on_qubit(TINY, 0)), plain_qubit(TINY))

    def test_a_first_place_below_all_rounding(self):
        # Ten tiny chances at once are below 2^-120: number 0 draws place 0, and 1 does not.
        rows = [TINY] * 10
        before = begin(10, 0) + run(text_of(rows))
        plain = side_by_side(rows)
        self.assertEqual(plain.ends()[0], 1)
        low, high = bounds(*size_squared(plain.amplitudes[0]))
        self.assertTrue(0 < low < high < Fraction(1, 2 ** 120))
        self.assertEqual(asked(before, [chance(1023, 0)]), [plain.chance(1023, 0)])
        self.assertEqual(asked(before, [draw(0), draw(1)])[0], [0])
        self.assertNotEqual(asked(before, [draw(0), draw(1)])[1], [0])
        self.check(before, plain)

    def test_a_place_in_the_middle_below_all_rounding(self):
        # Place 512 has a chance below 2^-110 just behind a half: it is drawn by 2^63 alone.
        rows = [TINY] * 9 + ["H"]
        before = begin(10, 0) + run(text_of(rows))
        given = asked(before, [draw(HALF - 1), draw(HALF), draw(HALF + 1)])
        self.assertEqual(given[1], [512])
        self.assertLess(given[0][0], 512)
        self.assertGreater(given[2][0], 512)
        self.check(before, side_by_side(rows))

    def test_a_last_place_below_all_rounding(self):
        rows = [TINY + "X"] * 10
        before = begin(10, 0) + run(text_of(rows))
        plain = side_by_side(rows)
        self.assertEqual(asked(before, [chance(1023, 1023)]), [plain.chance(1023, 1023)])
        self.assertLess(asked(before, [draw(LAST)])[0][0], 1023)
        self.check(before, plain)

    def test_at_k_120(self):
        way = "HT" * 239
        plain = plain_qubit(way)
        before = begin(1, 0) + run(on_qubit(way, 0))
        self.assertEqual(asked(before, [chance(1, 0)])[0][0], 120)
        self.check(before, plain)

    def test_at_every_k_on_the_way(self):
        plain = PlainState(1, 0)
        for step in range(1, 240):
            plain.gate(7, 0, 0, 0)
            plain.gate(5, 0, 0, 0)
            if step % 12 == 0 or step > 235:
                self.check(begin(1, 0) + run("H0 T0 " * step), plain)


if __name__ == "__main__":
    unittest.main()
