"""Ten qubits, texts of some thousand gates, k near 120: right, and in reasonable time."""

import time
import unittest
from bisect import bisect_right

from fewqubits.state import answers
from tests.calls import amplitude, begin, chance, draw, one_by_one, run
from tests.ways import side_by_side, text_of

LAST = 2 ** 64 - 1
SECONDS = 30

UNDONE = str.maketrans("SsTt", "sStT")

# Each qubit goes its own way, up to a k of 12.
ROWS = ["HT" * (21 + qubit % 3) + "XHSYZ"[qubit % 5] for qubit in range(10)]


def taken_back(text):
    return " ".join(word.translate(UNDONE) for word in reversed(text.split())) + " "


class LargeTest(unittest.TestCase):
    def timed(self, calls):
        """The answers one by one; a list that is too long, or answers that come too late, fail."""
        self.assertLessEqual(len(calls), 16000)
        start = time.perf_counter()
        given = one_by_one(answers(calls))
        self.assertLess(time.perf_counter() - start, SECONDS)
        self.assertLessEqual(len(given), 300)
        return given

    def test_own_ways_near_120(self):
        plain = side_by_side(ROWS)
        forth = text_of(ROWS)
        text = (forth + taken_back(forth)) * 5 + forth
        gates = len(text.split())
        self.assertGreater(gates, 4900)
        k, amplitudes = plain.least()
        self.assertGreaterEqual(k, 110)
        places = list(range(0, 1024, 11)) + [1022, 1023, 1024]
        pairs = [(0, 0), (1, 0), (1, 1), (512, 0), (512, 512), (1023, 0), (1023, 1023), (341, 65), (1023, 682), (682, 2)]
        ends = plain.ends()
        numbers = [0, 1, LAST] + [ends[place] - step for place in range(0, 1023, 60) for step in (1, 0)]
        calls = begin(10, 0) + run(text)
        calls += sum([amplitude(place) for place in places], [])
        calls += sum([chance(mask, value) for mask, value in pairs], [])
        calls += sum([draw(number) for number in numbers], [])
        wanted = [[0], [gates]]
        wanted += [[k, *amplitudes[place]] if place < 1024 else [-1] for place in places]
        wanted += [plain.chance(mask, value) for mask, value in pairs]
        wanted += [[bisect_right(ends, number)] for number in numbers]
        self.assertEqual(self.timed(calls), wanted)

    def test_qubits_that_hang_together_near_120(self):
        steps = []
        for q in range(10):
            steps += [f"H{q} T{q} H{(q + 3) % 10}+{q} T{(q + 5) % 10}-{q} X{(q + 1) % 10}+{q}-{(q + 7) % 10} "]
        forth = "".join((steps * 12)[:116])
        text = (forth + taken_back(forth)) * 2 + forth
        before = begin(10, 3) + run(text)
        given = self.timed(before + sum([chance(15 << 6, value << 6) for value in range(16)], []) + draw(0) + draw(LAST))
        self.assertEqual(given[:2], [[0], [2900]])
        self.assertEqual([sum(part) for part in zip(*given[2:18])], [16 * 119, 2 ** 119, 0])
        self.assertTrue(all(one[2] != 0 for one in given[2:18]))
        self.assertLess(given[18][0], given[19][0])
        given = self.timed(begin(10, 3) + run((forth + taken_back(forth)) * 2) + amplitude(3) + chance(1023, 3) + draw(LAST))
        self.assertEqual(given, [[0], [2320], [0, 1, 0, 0, 0], [0, 1, 0], [3]])

    def test_as_many_questions_as_there_may_be(self):
        forth = text_of(ROWS)
        before = begin(10, 0) + run(forth)
        draws = self.timed(before + sum([draw(number) for number in range(0, LAST, LAST // 297)], []))
        self.assertEqual(len(draws), 300)
        ends = side_by_side(ROWS).ends()
        self.assertEqual(draws[2:], [[bisect_right(ends, number)] for number in range(0, LAST, LAST // 297)])
        chances = self.timed(before + sum([chance(255, value) for value in range(256)], []) + chance(0, 0) * 42)
        k = chances[-1][0]
        self.assertEqual(chances[-42:], [[k, 2 ** k, 0]] * 42)
        self.assertEqual([sum(part) for part in zip(*chances[2:258])], [256 * k, 2 ** k, 0])
        amplitudes = self.timed(before + sum([amplitude(place) for place in range(298)], []))
        self.assertEqual(amplitudes[2:], [[k, *one] for one in side_by_side(ROWS).least()[1][:298]])


if __name__ == "__main__":
    unittest.main()
