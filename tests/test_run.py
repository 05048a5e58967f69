import random
import unittest

from fewqubits.state import State, answers
from tests.calls import begin, codes, first_numbers, gate, run

LETTERS = "XYZSsTtH"


def after(n, place, gates):
    """The state once these gates are done one by one."""
    state = State()
    state.begin(n, place)
    for kind, target, on, off in gates:
        assert state.gate(kind, target, on, off) == 0
    return state.k, state.amplitudes


class RunTest(unittest.TestCase):
    def check(self, text, number, gates, n=3, place=0):
        """The text answers number, and does just these gates."""
        state = State()
        state.begin(n, place)
        self.assertEqual(state.run(codes(text)), number, text)
        self.assertEqual((state.k, state.amplitudes), after(n, place, gates), text)
        self.assertEqual(answers(begin(n, place) + run(text)), [1, 0, 1, number])


class DoneTest(RunTest):
    def test_every_letter(self):
        for place in range(8):
            for kind, letter in enumerate(LETTERS):
                self.check(f"H2 {letter}2", 2, [(7, 2, 0, 0), (kind, 2, 0, 0)], place=place)
        self.check("X0 Y1 Z2 S0 s1 T2 t0 H1", 8, [(kind, kind % 3, 0, 0) for kind in range(8)])

    def test_controls(self):
        self.check("X0 X1+0", 2, [(0, 0, 0, 0), (0, 1, 1, 0)])
        self.check("X1-0", 1, [(0, 1, 0, 1)])
        self.check("H0 H1 X2+0-1", 3, [(7, 0, 0, 0), (7, 1, 0, 0), (0, 2, 1, 2)])
        self.check("H0 H1 X2-1+0", 3, [(7, 0, 0, 0), (7, 1, 0, 0), (0, 2, 1, 2)])
        self.check("H0+1+2", 1, [(7, 0, 6, 0)], place=6)
        self.check("H0-1-2", 1, [(7, 0, 0, 6)])

    def test_every_digit(self):
        self.check(" ".join(f"X{digit}" for digit in range(10)), 10, [(0, d, 0, 0) for d in range(10)], n=10)
        self.check("X9+0+1+2+3+4+5+6+7+8", 1, [(0, 9, 511, 0)], n=10, place=511)
        self.check("X0-9-8-7-6-5-4-3-2-1", 1, [(0, 0, 0, 1022)], n=10)

    def test_blanks(self):
        gates = [(7, 0, 0, 0), (5, 0, 0, 0), (7, 1, 1, 0)]
        for text in ("H0 T0 H1+0", "H0\nT0\nH1+0", "  H0   T0\n\n H1+0 \n", "\nH0 \n T0 H1+0\n", "H0\n \nT0  H1+0 "):
            self.check(text, 3, gates)

    def test_nothing_told(self):
        for text in ("", " ", "\n", "  \n \n\n  ", " " * 1000):
            self.check(text, 0, [])

    def test_one_run_behind_another(self):
        calls = begin(2, 0) + run("H0 X1+0") + run("") + run("X1+0 H0 Q") + run("X1")
        self.assertEqual(first_numbers(answers(calls)), [0, 2, 0, -3, 1])


class NotSoTest(RunTest):
    WRONG = [
        "X", "0", "+", "Q0", "x0", "h0", "XX", "X+", "X00", "X0+", "X0-", "X0+1-", "X0+-1", "X0++1", "X0+X", "X01",
        "X0*1", "X0+1*2", "X0,1", "0X", "+1", "X0+12", "X:", "X/", "X0+:", "X0-/", "X0\t", "\tX0", "X0\r", "X0\0",
        "X0;", "I0", "\xd80", "X\xb2", "X0\xa0", "X0\x0b", "#", "X+1",
    ]
    TWICE = ["X0+0", "X0-0", "X0+1+1", "X0-1-1", "X0+1-1", "X0-1+1", "X0+1-2+1", "X0+1-2-2", "X0+1+2-0", "H1+0-2-1"]
    NOT_DONE = ["X3", "X9", "H0+3", "H0-3", "T0+1+9", "T0+1-9", "X3+4"]

    def test_at_the_front_in_the_middle_and_at_the_end(self):
        before = [(7, 0, 0, 0), (5, 0, 0, 0)]
        for wrong in self.WRONG + self.TWICE + self.NOT_DONE:
            self.check(wrong, -1, [])
            self.check(f" {wrong}\n", -1, [])
            self.check(f"{wrong} H0 T0", -1, [])
            self.check(f"H0 T0 {wrong} X1", -3, before)
            self.check(f"H0 T0 {wrong} {wrong}", -3, before)
            self.check(f"H0 T0\n{wrong}", -3, before)

    def test_a_letter_apart_from_its_digit(self):
        self.check("X 0", -1, [])
        self.check("X0 +1", -2, [(0, 0, 0, 0)])
        self.check("X0 X1+ 0", -2, [(0, 0, 0, 0)])
        self.check("X0 X1 -0", -3, [(0, 0, 0, 0), (0, 1, 0, 0)])

    def test_two_gates_with_nothing_between(self):
        # What stands between blanks is the gate that isn't so: none of it is done.
        self.check("X0X1", -1, [])
        self.check("X0+1X1", -1, [])
        self.check("H0 X0X1", -2, [(7, 0, 0, 0)])
        self.check("H0 X0X1 X2", -2, [(7, 0, 0, 0)])
        self.check("H0 T0 X0+1H2-1", -3, [(7, 0, 0, 0), (5, 0, 0, 0)])

    def test_every_byte_as_a_letter_a_digit_and_a_sign(self):
        for byte in range(256):
            sign = bytes([byte]).decode("latin-1")
            if sign in " \n":
                continue
            right = {
                f"{sign}0": sign in LETTERS,
                f"X{sign}": sign in "012",
                f"X0{sign}1": sign in "+-",
                f"X0+{sign}": sign in "12",
                f"X0{sign}": False,
            }
            for text, so in right.items():
                self.assertEqual(first_numbers(answers(begin(3, 0) + run(text))), [0, 1 if so else -1], text)

    def test_too_fine_in_a_text(self):
        way = "H0 T0 " * 239
        self.assertEqual(first_numbers(answers(begin(1, 0) + run(way))), [0, 478])
        calls = begin(1, 0) + run(way + "H0 X0") + gate(7, 0) + run("Z0 H0") + run("H0")
        self.assertEqual(first_numbers(answers(calls))[:3], [0, -479, -2])
        state = State()
        state.begin(1, 0)
        state.run(codes(way))
        before = (state.k, list(state.amplitudes))
        self.assertEqual(state.run(codes("H0")), -1)
        self.assertEqual((state.k, state.amplitudes), before)
        # t and H take the last T and H back, so the way down is free.
        self.assertEqual(state.run(codes("t0 H0 " * 239)), 478)
        self.assertEqual((state.k, state.amplitudes), (0, [(1, 0, 0, 0), (0, 0, 0, 0)]))


class LongTest(RunTest):
    def test_the_longest_text_of_the_interface(self):
        chosen = random.Random(5)
        text = " ".join(f"{chosen.choice(LETTERS)}{chosen.randrange(2)}" for gate_number in range(5300)) + " "
        self.assertEqual(len(text), 15900)
        forth = codes("H0 " * 5300)
        self.assertEqual(answers(begin(10, 1023) + [2, 15900] + forth), [1, 0, 1, 5300])
        state = State()
        state.begin(2, 0)
        number = state.run(codes(text))
        gates = [(LETTERS.index(word[0]), int(word[1]), 0, 0) for word in text.split()]
        done = number if number >= 0 else -1 - number
        self.assertEqual((state.k, state.amplitudes), after(2, 0, gates[:done]))
        if number < 0:
            self.assertEqual(state.gate(*gates[done]), -2)

    def test_long_texts_of_other_forms(self):
        self.assertEqual(first_numbers(answers(begin(1, 0) + run(" " * 15900))), [0, 0])
        self.assertEqual(first_numbers(answers(begin(1, 0) + run("X" * 15900))), [0, -1])
        self.assertEqual(first_numbers(answers(begin(2, 0) + run("X0" + "+1" * 7949))), [0, -1])
        self.assertEqual(first_numbers(answers(begin(1, 0) + run("X0 " * 5299 + "X0+"))), [0, -5300])
        self.assertEqual(first_numbers(answers(begin(1, 0) + run("\n" * 15898 + "X0"))), [0, 1])

    def test_65536_bytes_and_one_more(self):
        state = State()
        state.begin(1, 0)
        self.assertEqual(state.run(codes("X0 " * 21845 + " ")), 21845)
        self.assertEqual(state.amplitudes, [(0, 0, 0, 0), (1, 0, 0, 0)])
        for text in ("X0 " * 21845 + "  ", "X0 " * 21845 + "X0", " " * 65537, "Q" * 65600):
            self.assertEqual(state.run(codes(text)), -65537)
            self.assertEqual(state.amplitudes, [(0, 0, 0, 0), (1, 0, 0, 0)])


if __name__ == "__main__":
    unittest.main()
