import unittest

from fewqubits.state import State, answers
from tests.calls import begin, first_numbers, gate
from tests.plain import PlainState
from tests.ways import all_gates, mixing_way, plain_after, random_way

H = 7
T = 5

ZERO = (0, 0, 0, 0)
ONE = (1, 0, 0, 0)


def begun(n, place):
    state = State()
    state.begin(n, place)
    return state


def seen(state):
    return state.k, list(state.amplitudes)


def all_different(n):
    """A state and its plain twin of which no two amplitudes are alike."""
    state = begun(n, 0)
    for kind, target, on, off in mixing_way(n):
        state.gate(kind, target, on, off)
    return state, plain_after(n, 0, mixing_way(n))


def at_the_edge():
    """One qubit at k 120 whose next H would need k 121."""
    state = begun(1, 0)
    for done in range(239):
        assert state.gate(H, 0, 0, 0) == 0
        assert state.gate(T, 0, 0, 0) == 0
    return state


class KindsTest(unittest.TestCase):
    def test_the_mixed_states_are_mixed(self):
        for n in (1, 2, 3):
            state, plain = all_different(n)
            self.assertEqual(seen(state), plain.least())
            self.assertEqual(len(set(state.amplitudes) | {ZERO}), 2 ** n + 1)

    # What each kind makes of a state that is 1 at place 0, and of one that is 1 at place 1.
    BASIS = [
        (0, [ZERO, ONE], [ONE, ZERO]),
        (1, [ZERO, (0, 0, 1, 0)], [(0, 0, -1, 0), ZERO]),
        (2, [ONE, ZERO], [ZERO, (-1, 0, 0, 0)]),
        (3, [ONE, ZERO], [ZERO, (0, 0, 1, 0)]),
        (4, [ONE, ZERO], [ZERO, (0, 0, -1, 0)]),
        (5, [ONE, ZERO], [ZERO, (0, 1, 0, 0)]),
        (6, [ONE, ZERO], [ZERO, (0, 0, 0, -1)]),
    ]

    def test_on_one_place(self):
        for kind, from_zero, from_one in self.BASIS:
            for place, wanted in ((0, from_zero), (1, from_one)):
                state = begun(1, place)
                self.assertEqual(state.gate(kind, 0, 0, 0), 0)
                self.assertEqual(seen(state), (0, wanted), (kind, place))

    def test_h_on_one_place(self):
        for place, wanted in ((0, [ONE, ONE]), (1, [ONE, (-1, 0, 0, 0)])):
            state = begun(1, place)
            self.assertEqual(state.gate(H, 0, 0, 0), 0)
            self.assertEqual(seen(state), (1, wanted))

    def test_controls(self):
        for place in range(8):
            state = begun(3, place)
            self.assertEqual(state.gate(0, 1, 4, 1), 0)
            moved = place ^ 2 if place & 4 and not place & 1 else place
            self.assertEqual(state.amplitudes[moved], ONE)
            self.assertEqual(state.amplitudes.count(ZERO), 7)

    def test_h_with_a_control_brings_the_others_along(self):
        state = begun(2, 0)
        state.gate(H, 1, 0, 0)
        self.assertEqual(state.gate(H, 0, 2, 0), 0)
        self.assertEqual(seen(state), (2, [(0, 1, 0, -1), ZERO, ONE, ONE]))
        self.assertEqual(state.gate(H, 0, 2, 0), 0)
        self.assertEqual(seen(state), (1, [ONE, ZERO, ONE, ZERO]))

    def test_every_kind_target_and_control_on_mixed_states(self):
        for n in (1, 2, 3):
            for kind, target, on, off in all_gates(n):
                state, plain = all_different(n)
                self.assertEqual(state.gate(kind, target, on, off), plain.gate(kind, target, on, off))
                self.assertEqual(seen(state), plain.least(), (n, kind, target, on, off))

    def test_ten_qubits_with_the_highest_as_target_and_as_control(self):
        state = begun(10, 0)
        for target in range(10):
            self.assertEqual(state.gate(H, target, 0, 0), 0)
        self.assertEqual(seen(state), (10, [ONE] * 1024))
        self.assertEqual(state.gate(2, 9, 511, 0), 0)
        self.assertEqual(seen(state), (10, [ONE] * 1023 + [(-1, 0, 0, 0)]))
        self.assertEqual(state.gate(2, 0, 0, 1022), 0)
        self.assertEqual(state.amplitudes[1], (-1, 0, 0, 0))
        self.assertEqual(state.amplitudes.count(ONE), 1022)


class LeastTest(unittest.TestCase):
    def test_long_ways_keep_the_state_least(self):
        for seed in range(12):
            n = 1 + seed % 4
            place = seed % 2 ** n
            state = begun(n, place)
            plain = PlainState(n, place)
            for step, (kind, target, on, off) in enumerate(random_way(seed, n, 60)):
                self.assertEqual(state.gate(kind, target, on, off), plain.gate(kind, target, on, off))
                self.assertEqual(seen(state), plain.least(), (seed, step))

    def test_undone_gates_bring_k_back_to_zero(self):
        way = [(H, 0, 0, 0), (T, 0, 0, 0), (H, 1, 0, 0), (H, 2, 1, 2), (3, 2, 0, 0), (H, 0, 4, 0), (1, 1, 1, 4)]
        undoing = {0: 0, 1: 1, 2: 2, 3: 4, 4: 3, 5: 6, 6: 5, 7: 7}
        state = begun(3, 6)
        for kind, target, on, off in way:
            state.gate(kind, target, on, off)
        self.assertGreater(state.k, 2)
        for kind, target, on, off in reversed(way):
            state.gate(undoing[kind], target, on, off)
        self.assertEqual(seen(state), (0, [ZERO] * 6 + [ONE, ZERO]))


class RefusedTest(unittest.TestCase):
    WRONG = [
        (-1, 0, 0, 0), (8, 0, 0, 0), (-2 ** 31, 0, 0, 0), (2 ** 31 - 1, 0, 0, 0),
        (0, -1, 0, 0), (0, 3, 0, 0), (0, 10, 0, 0), (7, 32, 0, 0), (7, -2 ** 31, 0, 0), (7, 2 ** 31 - 1, 0, 0),
        (0, 0, 8, 0), (0, 0, 0, 8), (7, 0, 2 ** 31, 0), (7, 0, 0, 2 ** 31), (2, 0, 2 ** 32 - 2, 0),
        (2, 0, 10, 0), (2, 0, 0, 10), (2, 0, 0, 2 ** 32 - 2),
        (0, 0, 1, 0), (0, 0, 0, 1), (7, 1, 2, 0), (7, 1, 0, 2), (5, 2, 7, 0), (5, 2, 0, 6), (0, 0, 1, 1),
        (0, 0, 2, 2), (7, 0, 6, 4), (7, 0, 2, 6), (7, 2, 3, 3), (0, 0, 8, 8),
    ]

    def test_refused_and_the_state_as_it_was(self):
        state, plain = all_different(3)
        before = seen(state)
        for kind, target, on, off in self.WRONG:
            self.assertEqual(plain.gate(kind, target, on, off), -1)
            self.assertEqual(state.gate(kind, target, on, off), -1, (kind, target, on, off))
            self.assertEqual(seen(state), before)

    def test_by_the_list(self):
        calls = begin(3, 0)
        for kind, target, on, off in self.WRONG:
            calls += gate(kind, target, on, off)
        self.assertEqual(answers(calls), [1, 0] + [1, -1] * len(self.WRONG))

    def test_the_edges_are_done(self):
        self.assertEqual(first_numbers(answers(begin(3, 0) + gate(0, 2, 3) + gate(7, 2, 0, 3))), [0, 0, 0])
        self.assertEqual(first_numbers(answers(begin(10, 0) + gate(7, 9, 511) + gate(0, 0, 1022))), [0, 0, 0])
        self.assertEqual(first_numbers(answers(begin(10, 0) + gate(7, 9, 1 << 10) + gate(7, 10))), [0, -1, -1])
        self.assertEqual(first_numbers(answers(begin(1, 0) + gate(7, 0) + gate(7, 1) + gate(7, 0, 2))), [0, 0, -1, -1])


class EdgeOfKTest(unittest.TestCase):
    def test_120_is_done_and_above_refused(self):
        state = at_the_edge()
        self.assertEqual(state.k, 120)
        before = seen(state)
        for again in range(3):
            self.assertEqual(state.gate(H, 0, 0, 0), -2)
            self.assertEqual(seen(state), before)

    def test_beside_the_plain_way(self):
        state = begun(1, 0)
        plain = PlainState(1, 0)
        told = []
        ks = []
        for step in range(243):
            for kind in (H, T):
                told.append(state.gate(kind, 0, 0, 0))
                self.assertEqual(told[-1], plain.gate(kind, 0, 0, 0))
            ks.append(state.k)
        self.assertEqual(seen(state), plain.least())
        self.assertIn(-2, told)
        # At k 120 an H that leaves k at 120 is done.
        self.assertTrue(any(ks[i] == ks[i + 1] == 120 and told[2 * i + 2] == 0 for i in range(242)))

    def test_h_that_lets_k_go_down_is_done_at_120(self):
        state = begun(1, 0)
        while state.k < 120:
            state.gate(T, 0, 0, 0)
            before = seen(state)
            state.gate(H, 0, 0, 0)
        self.assertEqual(before[0], 119)
        self.assertEqual(state.gate(H, 0, 0, 0), 0)
        self.assertEqual(seen(state), before)
        self.assertEqual(state.gate(H, 0, 0, 0), 0)
        self.assertEqual(state.k, 120)

    def test_other_gates_are_done_at_120_and_h_may_be_done_again(self):
        state = at_the_edge()
        self.assertEqual(state.gate(H, 0, 0, 0), -2)
        for kind in range(7):
            self.assertEqual(state.gate(kind, 0, 0, 0), 0)
            self.assertEqual(state.k, 120)
        state = at_the_edge()
        self.assertEqual(state.gate(6, 0, 0, 0), 0)
        self.assertEqual(state.gate(H, 0, 0, 0), 0)
        self.assertEqual(state.gate(6, 0, 0, 0), 0)
        self.assertEqual(state.gate(H, 0, 0, 0), 0)
        self.assertLess(state.k, 120)

    def test_controls_at_120(self):
        state = begun(2, 0)
        for done in range(239):
            state.gate(H, 0, 0, 0)
            state.gate(T, 0, 0, 0)
        before = seen(state)
        self.assertEqual(state.gate(H, 0, 2, 0), 0)
        self.assertEqual(seen(state), before)
        self.assertEqual(state.gate(H, 0, 0, 2), -2)
        self.assertEqual(state.gate(H, 1, 0, 0), -2)
        self.assertEqual(state.gate(H, 1, 1, 0), -2)
        self.assertEqual(seen(state), before)

    def test_a_wrong_gate_is_told_as_wrong_at_120(self):
        state = at_the_edge()
        self.assertEqual(state.gate(H, 0, 1, 0), -1)
        self.assertEqual(state.gate(H, 1, 0, 0), -1)


if __name__ == "__main__":
    unittest.main()
