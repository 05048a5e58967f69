import unittest

from fewqubits.state import answers
from tests.calls import amplitude, asked, begin, gate, run
from tests.ways import H, T, all_gates, calls_of, mixing_way, plain_after, random_way


def every_place(n):
    return [amplitude(place) for place in range(2 ** n)]


class AmplitudeTest(unittest.TestCase):
    def check(self, n, place, way):
        """The gates leave at every place what the plain way leaves there, over the least k."""
        plain = plain_after(n, place, way)
        k, amplitudes = plain.least()
        wanted = [[k, *one] for one in amplitudes]
        self.assertEqual(asked(calls_of(n, place, way), every_place(n)), wanted, (n, place, way))

    def test_form(self):
        self.assertEqual(answers(begin(1, 1) + amplitude(0) + amplitude(1)), [1, 0, 5, 0, 0, 0, 0, 0, 5, 0, 1, 0, 0, 0])

    def test_begun(self):
        for n in range(1, 11):
            for place in (0, 2 ** n // 2, 2 ** n - 1):
                wanted = [[0, int(at == place), 0, 0, 0] for at in range(2 ** n)]
                self.assertEqual(asked(begin(n, place), every_place(n)), wanted)

    def test_told_by_hand(self):
        both = amplitude(0) + amplitude(1)
        self.assertEqual(answers(begin(1, 0) + run("H0") + both), [1, 0, 1, 1, 5, 1, 1, 0, 0, 0, 5, 1, 1, 0, 0, 0])
        self.assertEqual(asked(begin(1, 0) + run("H0 T0"), every_place(1)), [[1, 1, 0, 0, 0], [1, 0, 1, 0, 0]])
        self.assertEqual(asked(begin(1, 0) + run("H0 T0 H0"), every_place(1)), [[2, 1, 1, 0, 0], [2, 1, -1, 0, 0]])
        self.assertEqual(asked(begin(1, 0) + run("H0 t0"), every_place(1)), [[1, 1, 0, 0, 0], [1, 0, 0, 0, -1]])
        self.assertEqual(asked(begin(1, 0) + run("Y0"), every_place(1)), [[0, 0, 0, 0, 0], [0, 0, 0, 1, 0]])
        # Two of these places have the root of 2 in them, as k is one for the whole state.
        wanted = [[2, 0, 1, 0, -1], [2, 0, 0, 0, 0], [2, 1, 0, 0, 0], [2, 1, 0, 0, 0]]
        self.assertEqual(asked(begin(2, 0) + run("H1 H0+1"), every_place(2)), wanted)

    def test_every_gate_from_every_place(self):
        for n in (1, 2):
            for place in range(2 ** n):
                for one in all_gates(n):
                    self.check(n, place, [one])

    def test_every_gate_on_mixed_states(self):
        for n in (1, 2, 3):
            for one in all_gates(n):
                self.check(n, 0, mixing_way(n) + [one])

    def test_long_ways(self):
        for seed in range(100, 112):
            n = 1 + seed % 4
            self.check(n, seed % 2 ** n, random_way(seed, n, 50))

    def test_k_is_the_least(self):
        self.assertEqual(asked(begin(1, 0) + run("H0 H0"), every_place(1)), [[0, 1, 0, 0, 0], [0, 0, 0, 0, 0]])
        self.assertEqual(asked(begin(3, 5) + run("H0 H1 H2 H2 H1 H0"), [amplitude(5)]), [[0, 1, 0, 0, 0]])
        # H0 twice leaves what H1 did, and k goes back with it.
        self.assertEqual(asked(begin(2, 0) + run("H1 H0 T0 t0 H0"), [amplitude(2)]), [[1, 1, 0, 0, 0]])

    def test_places_not_below(self):
        for n in range(1, 11):
            for way in ([], [(H, 0, 0, 0), (T, 0, 0, 0)]):
                last = 2 ** n - 1
                far = [last + 1, last + 2, 2 * last + 1, 1023 + last + 1, 2 ** 31, 2 ** 32 - 2, 2 ** 32 - 1]
                given = asked(calls_of(n, 0, way), [amplitude(last)] + [amplitude(place) for place in far])
                self.assertEqual([len(one) for one in given], [5] + [1] * len(far))
                self.assertEqual(given[1:], [[-1]] * len(far))

    def test_asking_changes_nothing(self):
        calls = begin(2, 0)
        for kind, target, on, off in mixing_way(2):
            calls += amplitude(1) + gate(kind, target, on, off) + amplitude(4)
        self.assertEqual(asked(calls, every_place(2)), asked(calls_of(2, 0, mixing_way(2)), every_place(2)))


if __name__ == "__main__":
    unittest.main()
