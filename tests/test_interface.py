import random
import unittest

from fewqubits.state import answers
from tests.calls import amplitude, begin, chance, draw, first_numbers, gate, one_by_one, run
from tests.plain import PlainState
from tests.ways import LETTERS, random_way


class Unchangeable(list):
    """A list that fails whoever tries to change it."""

    def refuse(self, *given, **named):
        raise AssertionError("what was handed in was changed")

    __setitem__ = __delitem__ = __iadd__ = __imul__ = refuse
    append = extend = insert = pop = remove = clear = sort = reverse = refuse


MIXED = begin(3, 2) + gate(7, 0) + run("H1 T1 Q0") + gate(9, 0) + run("") + gate(0, 2, 1, 2) + run("X0+0")
MIXED += amplitude(3) + chance(2, 2) + draw(2 ** 63) + run("H1") + amplitude(8) + chance(4, 2) + chance(6, 0)

EDGES = (0, 1, 2 ** 31, 2 ** 32 - 1)
LAST = 2 ** 64 - 1


def word(kind, target, on, off):
    controls = [f"+{bit}" for bit in range(10) if on >> bit & 1] + [f"-{bit}" for bit in range(10) if off >> bit & 1]
    return LETTERS[kind] + str(target) + "".join(controls)


def plain_run(plain, way):
    """What run answers of these gates, each of which is so, but perhaps not done."""
    for number, (kind, target, on, off) in enumerate(way):
        if plain.gate(kind, target, on, off) != 0:
            return -1 - number
    return len(way)


def random_call(chosen, plain):
    """One call other than begin, and what the plain state answers to it."""
    many = 2 ** plain.n
    kind, target, on, off = random_way(chosen.random(), plain.n, 1)[0]
    sort = chosen.randrange(6)
    if sort == 0:
        on = chosen.choice((on, on, on, on | 1 << target, many, chosen.choice(EDGES)))
        return gate(kind, target, on, off), [plain.gate(kind, target, on, off)]
    if sort == 1:
        # One qubit too many now and then, so that some gate of the text is not done.
        way = random_way(chosen.random(), min(10, plain.n + chosen.choice((0, 0, 0, 1))), chosen.randrange(8))
        return run("\n ".join(word(*one) for one in way)), [plain_run(plain, way)]
    if sort == 2:
        place = chosen.choice((chosen.randrange(many), chosen.randrange(many), many, chosen.choice(EDGES)))
        return amplitude(place), plain.amplitude(place)
    if sort in (3, 4):
        mask = chosen.choice((chosen.randrange(many), many - 1, chosen.randrange(many), chosen.choice(EDGES)))
        value = chosen.choice((mask & chosen.randrange(many), mask & chosen.randrange(many), chosen.randrange(2 * many)))
        return chance(mask, value), plain.chance(mask, value)
    number = chosen.choice((0, 1, LAST, 2 ** 63, chosen.randrange(2 ** 64), chosen.choice(plain.ends()) - 1))
    return draw(max(number, 0)), [plain.draw(max(number, 0))]


def random_calls(seed):
    """A list of calls, and the list that answers it."""
    chosen = random.Random(seed)
    n = chosen.randrange(1, 5)
    place = chosen.randrange(2 ** n)
    plain = PlainState(n, place)
    calls = begin(n, place)
    wanted = [1, 0]
    for step in range(40):
        more, answer = random_call(chosen, plain)
        calls += more
        wanted += [len(answer)] + answer
    return calls, wanted


class InterfaceTest(unittest.TestCase):
    def test_form_of_the_answers(self):
        wanted = [1, 0, 1, 0, 1, -3, 1, -1, 1, 0, 1, 0, 1, -1]
        # Places 0, 2, 3 and 5 are 1, -w, -w and 1, over 2.
        wanted += [5, 2, 0, -1, 0, 0, 3, 2, 2, 0, 1, 3]
        wanted += [1, 1, 1, -1, 1, -1, 3, 3, 3, -1]
        self.assertEqual(answers(MIXED), wanted)

    def test_lists_of_all_calls_in_any_order(self):
        for seed in range(150):
            calls, wanted = random_calls(seed)
            before = list(calls)
            self.assertEqual(one_by_one(answers(calls)), one_by_one(wanted), seed)
            self.assertEqual(answers(calls), wanted)
            self.assertEqual(calls, before)

    def test_whole_numbers_in_a_list(self):
        given = answers(MIXED)
        self.assertIs(type(given), list)
        for one in given:
            self.assertIs(type(one), int)

    def test_a_refused_begin_alone(self):
        self.assertEqual(answers([0, 0, 0]), [1, -1])
        self.assertEqual(answers([0, 4, 16]), [1, -1])

    def test_texts_that_look_like_calls(self):
        # Bytes from 0 to 5 inside a text are no calls, and end with the text's count.
        calls = begin(1, 0) + [2, 5, 0, 1, 0, 2, 1] + [2, 2, 88, 48] + [1, 0, 0, 0, 0]
        self.assertEqual(answers(calls), [1, 0, 1, -1, 1, 1, 1, 0])
        calls = begin(1, 0) + [2, 3, 3, 4, 5] + [2, 0] + [3, 3] + [3, 0] + [4, 0, 0] + [4, 4, 5] + [5, 5] + [5, 3]
        self.assertEqual(answers(calls), [1, 0, 1, -1, 1, 0, 1, -1, 5, 0, 1, 0, 0, 0, 3, 0, 1, 0, 1, -1, 1, 0, 1, 0])

    def test_what_is_handed_in_stays(self):
        calls = Unchangeable(MIXED)
        answers(calls)
        self.assertEqual(list(calls), MIXED)

    def test_nothing_is_kept(self):
        first = answers(MIXED)
        kept = list(first)
        at_the_edge = begin(1, 0) + run("H0 T0 " * 239) + gate(7, 0)
        self.assertEqual(first_numbers(answers(at_the_edge)), [0, 478, -2])
        self.assertEqual(first_numbers(answers(begin(1, 0) + gate(7, 0))), [0, 0])
        self.assertEqual(first_numbers(answers(at_the_edge)), [0, 478, -2])
        self.assertEqual(answers([0, 11, 0]), [1, -1])
        self.assertEqual(answers(MIXED), first)
        self.assertEqual(first, kept)
        first.append(7)
        self.assertEqual(answers(MIXED), kept)

    def test_300_calls(self):
        plain = PlainState(2, 3)
        calls = begin(2, 3)
        wanted = [0]
        for step in range(299):
            kind, target = (7, 5, 7, 0, 8)[step % 5], (step // 5) % 3
            on = 2 if target == 0 and step % 3 == 0 else 0
            calls += gate(kind, target, on)
            wanted.append(plain.gate(kind, target, on, 0))
        self.assertEqual(first_numbers(answers(calls)), wanted)
        self.assertIn(-1, wanted)
        self.assertIn(0, wanted[1:])


if __name__ == "__main__":
    unittest.main()
