import unittest

from fewqubits.state import answers
from tests.calls import amplitude, asked, begin, chance, run
from tests.ways import all_gates, calls_of, mixing_way, plain_after, random_way


def values_of(mask):
    return [value for value in range(mask + 1) if value & mask == value]


class ChanceTest(unittest.TestCase):
    def check(self, n, place, way):
        """Every mask and value of so many qubits, and some that are too high."""
        plain = plain_after(n, place, way)
        pairs = [(mask, value) for mask in range(2 ** n + 1) for value in range(2 ** n + 1)]
        wanted = [plain.chance(mask, value) for mask, value in pairs]
        given = asked(calls_of(n, place, way), [chance(mask, value) for mask, value in pairs])
        self.assertEqual(given, wanted, (n, place, way))
        return dict(zip(pairs, given))

    def test_form(self):
        self.assertEqual(answers(begin(1, 0) + run("H0") + chance(1, 0)), [1, 0, 1, 1, 3, 1, 1, 0])

    def test_told_by_hand(self):
        self.assertEqual(asked(begin(2, 2), [chance(2, 2), chance(2, 0), chance(3, 2)]), [[0, 1, 0], [0, 0, 0], [0, 1, 0]])
        both = [chance(1, 0), chance(1, 1), chance(0, 0)]
        self.assertEqual(asked(begin(1, 0) + run("H0 T0"), both), [[1, 1, 0], [1, 1, 0], [1, 2, 0]])
        self.assertEqual(asked(begin(1, 0) + run("H0 T0 H0"), both), [[2, 2, 1], [2, 2, -1], [2, 4, 0]])
        self.assertEqual(asked(begin(1, 1) + run("H0 t0 H0"), both), [[2, 2, -1], [2, 2, 1], [2, 4, 0]])

    def test_each_pair_of_parts_counts_for_y(self):
        # Amplitudes turned on by w, so that a b, b c, c d and d a each make y once.
        for turns, parts in enumerate(([1, 1, 0, 0], [0, 1, 1, 0], [0, 0, 1, 1], [-1, 0, 0, 1])):
            before = begin(1, 0) + run("H0 T0 H0 X0 " + "T0 " * turns + "X0")
            self.assertEqual(asked(before, [amplitude(0), chance(1, 0)]), [[2, *parts], [2, 2, 1]])

    def test_every_mask_and_value_of_mixed_states(self):
        for n in (1, 2, 3, 4):
            given = self.check(n, 0, mixing_way(n))
            self.assertTrue(any(one[0] > 0 and one[2] != 0 for one in given.values() if len(one) == 3))

    def test_every_mask_and_value_behind_every_gate(self):
        for one in all_gates(2):
            self.check(2, 0, mixing_way(2) + [one])

    def test_long_ways(self):
        for seed in range(200, 216):
            n = 1 + seed % 3
            self.check(n, seed % 2 ** n, random_way(seed, n, 40))

    def test_all_values_of_a_mask_together(self):
        for n, seed in ((3, 1), (4, 2), (5, 3), (5, 4)):
            before = calls_of(n, 0, mixing_way(n)[:60] + random_way(seed, n, 20))
            roots = 0
            for mask in range(2 ** n):
                given = asked(before, [chance(mask, value) for value in values_of(mask)])
                k = given[0][0]
                self.assertEqual({one[0] for one in given}, {k})
                self.assertEqual(sum(one[1] for one in given), 2 ** k)
                self.assertEqual(sum(one[2] for one in given), 0)
                roots += sum(one[2] != 0 for one in given)
            self.assertGreater(roots, 0)

    def test_k_is_the_state_s(self):
        before = begin(3, 0) + run("H0 H1 H2 T0 H0")
        given = asked(before, [amplitude(0), chance(0, 0), chance(2, 0), chance(7, 7)])
        self.assertEqual([one[0] for one in given], [4, 4, 4, 4])
        self.assertEqual(given[1:3], [[4, 16, 0], [4, 8, 0]])

    def test_qubits_that_hang_together(self):
        before = begin(3, 0) + run("H1 X0+1 X2+1")
        pairs = [chance(5, 0), chance(5, 1), chance(5, 4), chance(5, 5), chance(2, 2), chance(7, 7), chance(7, 2)]
        self.assertEqual(asked(before, pairs), [[1, one, 0] for one in (1, 0, 0, 1, 1, 1, 0)])

    def test_the_highest_qubit_of_ten(self):
        before = begin(10, 512)
        questions = [chance(512, 512), chance(512, 0), chance(1023, 512), chance(1023, 513), chance(511, 0)]
        self.assertEqual(asked(before, questions), [[0, 1, 0], [0, 0, 0], [0, 1, 0], [0, 0, 0], [0, 1, 0]])


class RefusedTest(unittest.TestCase):
    def test_mask_has_bits_from_n_on(self):
        for n in range(1, 11):
            masks = [2 ** n, 2 ** n + 1, 2 ** (n + 1), 2 ** 31, 2 ** 32 - 1, 2 ** 32 - 2 ** n]
            self.assertEqual(asked(begin(n, 0), [chance(mask, 0) for mask in masks]), [[-1]] * len(masks))
            self.assertEqual(asked(begin(n, 0), [chance(2 ** n - 1, 0)]), [[0, 1, 0]])

    def test_value_has_bits_from_n_on(self):
        for n in range(1, 11):
            values = [2 ** n, 2 ** n + 1, 2 ** (n + 1), 2 ** 31, 2 ** 32 - 1, 2 ** 32 - 2 ** n]
            self.assertEqual(asked(begin(n, 0), [chance(2 ** n - 1, one) for one in values]), [[-1]] * len(values))

    def test_both_have_the_same_bits_from_n_on(self):
        for n in range(1, 11):
            both = [2 ** n, 2 ** n + 1, 2 ** 31, 2 ** 32 - 1, 2 ** 32 - 2 ** n]
            self.assertEqual(asked(begin(n, 0), [chance(one, one) for one in both]), [[-1]] * len(both))

    def test_value_has_one_that_mask_has_not(self):
        for n in range(1, 6):
            full = 2 ** n - 1
            for mask in range(2 ** n):
                wrong = [value for value in range(2 ** n) if value & (full - mask)]
                given = asked(begin(n, full), [chance(mask, value) for value in wrong])
                self.assertEqual(given, [[-1]] * len(wrong))
                right = asked(begin(n, full), [chance(mask, value) for value in values_of(mask)])
                self.assertEqual(right, [[0, int(value == mask), 0] for value in values_of(mask)])

    def test_behind_gates_and_without_a_trace(self):
        before = begin(2, 0) + run("H0 T0 H0 X1+0")
        wrong = [chance(4, 0), chance(0, 4), chance(4, 4), chance(1, 2), chance(0, 1), chance(2, 3)]
        self.assertEqual(asked(before, wrong), [[-1]] * 6)
        self.assertEqual(asked(before + sum(wrong, []), [chance(1, 1), amplitude(3)]), [[2, 2, -1], [2, 1, -1, 0, 0]])


if __name__ == "__main__":
    unittest.main()
