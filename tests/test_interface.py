import unittest

from fewqubits.state import answers
from tests.calls import begin, first_numbers, gate, run
from tests.plain import PlainState


class Unchangeable(list):
    """A list that fails whoever tries to change it."""

    def refuse(self, *given, **named):
        raise AssertionError("what was handed in was changed")

    __setitem__ = __delitem__ = __iadd__ = __imul__ = refuse
    append = extend = insert = pop = remove = clear = sort = reverse = refuse


MIXED = begin(3, 2) + gate(7, 0) + run("H1 T1 Q0") + gate(9, 0) + run("") + gate(0, 2, 1, 2) + run("X0+0")


class InterfaceTest(unittest.TestCase):
    def test_form_of_the_answers(self):
        self.assertEqual(answers(MIXED), [1, 0, 1, 0, 1, -3, 1, -1, 1, 0, 1, 0, 1, -1])

    def test_whole_numbers_in_a_list(self):
        given = answers(MIXED)
        self.assertIs(type(given), list)
        for one in given:
            self.assertIs(type(one), int)

    def test_a_refused_begin_alone(self):
        self.assertEqual(answers([0, 0, 0]), [1, -1])
        self.assertEqual(answers([0, 4, 16]), [1, -1])

    def test_texts_that_look_like_calls(self):
        # Bytes from 0 to 5 inside a text are no calls, and end with the text's count.
        calls = begin(1, 0) + [2, 5, 0, 1, 0, 2, 1] + [2, 2, 88, 48] + [1, 0, 0, 0, 0]
        self.assertEqual(answers(calls), [1, 0, 1, -1, 1, 1, 1, 0])

    def test_what_is_handed_in_stays(self):
        calls = Unchangeable(MIXED)
        answers(calls)
        self.assertEqual(list(calls), MIXED)

    def test_nothing_is_kept(self):
        first = answers(MIXED)
        kept = list(first)
        at_the_edge = begin(1, 0) + run("H0 T0 " * 239) + gate(7, 0)
        self.assertEqual(first_numbers(answers(at_the_edge)), [0, 478, -2])
        self.assertEqual(first_numbers(answers(begin(1, 0) + gate(7, 0))), [0, 0])
        self.assertEqual(first_numbers(answers(at_the_edge)), [0, 478, -2])
        self.assertEqual(answers([0, 11, 0]), [1, -1])
        self.assertEqual(answers(MIXED), first)
        self.assertEqual(first, kept)
        first.append(7)
        self.assertEqual(answers(MIXED), kept)

    def test_300_calls(self):
        plain = PlainState(2, 3)
        calls = begin(2, 3)
        wanted = [0]
        for step in range(299):
            kind, target = (7, 5, 7, 0, 8)[step % 5], (step // 5) % 3
            on = 2 if target == 0 and step % 3 == 0 else 0
            calls += gate(kind, target, on)
            wanted.append(plain.gate(kind, target, on, 0))
        self.assertEqual(first_numbers(answers(calls)), wanted)
        self.assertIn(-1, wanted)
        self.assertIn(0, wanted[1:])


if __name__ == "__main__":
    unittest.main()
