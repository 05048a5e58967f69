import unittest

from fewqubits.state import State, answers
from tests.calls import begin


class BeginTest(unittest.TestCase):
    def test_ordinary(self):
        self.assertEqual(answers(begin(3, 5)), [1, 0])
        self.assertEqual(answers(begin(2, 0)), [1, 0])

    def test_amplitudes(self):
        state = State()
        self.assertEqual(state.begin(2, 1), 0)
        self.assertEqual(state.k, 0)
        self.assertEqual(state.amplitudes, [(0, 0, 0, 0), (1, 0, 0, 0), (0, 0, 0, 0), (0, 0, 0, 0)])

    def test_every_n_and_the_edges_of_place(self):
        for n in range(1, 11):
            with self.subTest(n=n):
                for place in (0, 1, 2 ** n - 1):
                    self.assertEqual(answers(begin(n, place)), [1, 0])
                for place in (2 ** n, 2 ** n + 1, 2 ** 31, 2 ** 32 - 1):
                    self.assertEqual(answers(begin(n, place)), [1, -1])
                state = State()
                state.begin(n, 2 ** n - 1)
                self.assertEqual(len(state.amplitudes), 2 ** n)
                self.assertEqual(state.amplitudes[-1], (1, 0, 0, 0))
                self.assertEqual(state.amplitudes.count((0, 0, 0, 0)), 2 ** n - 1)

    def test_n_refused(self):
        for n in (0, 11, 12, 31, 32, 63, 64, 65536, 2147483647):
            for place in (0, 1, 2 ** 32 - 1):
                self.assertEqual(answers(begin(n, place)), [1, -1], (n, place))

    def test_n_below_zero(self):
        for n in (-1, -10, -2147483648):
            self.assertEqual(State().begin(n, 0), -1)


if __name__ == "__main__":
    unittest.main()
