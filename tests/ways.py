"""Rows of gates (kind, target, on, off) that several tests go."""

import random

from tests.calls import begin, gate
from tests.plain import PlainState

H = 7
T = 5

# The kinds in order.
LETTERS = "XYZSsTtH"


def mixing_way(n):
    """Gates that leave no two amplitudes alike, if gone from place 0."""
    return [(kind, target, 0, 0) for target in range(n) for kind in (H, T, H) + (3, H, T) * target]


def all_gates(n):
    """Every gate that there is on n qubits, with and without controls."""
    found = []
    for target in range(n):
        choices = [(0, 0)]
        for bit in [1 << i for i in range(n) if i != target]:
            choices = [(on + a, off + b) for on, off in choices for a, b in ((0, 0), (bit, 0), (0, bit))]
        found += [(kind, target, on, off) for kind in range(8) for on, off in choices]
    return found


def random_way(seed, n, length):
    """Gates drawn by the seed: H and T often, so that all that numbers can be comes up."""
    chosen = random.Random(seed)
    way = []
    for step in range(length):
        kind = chosen.choice((0, 1, 2, 3, 4, T, T, 6, H, H, H, H))
        target = chosen.randrange(n)
        free = [1 << bit for bit in range(n) if bit != target]
        on = sum(bit for bit in free if chosen.randrange(4) == 0)
        off = sum(bit for bit in free if not bit & on and chosen.randrange(4) == 0)
        way.append((kind, target, on, off))
    return way


def calls_of(n, place, way):
    """begin and the gates as calls."""
    calls = begin(n, place)
    for kind, target, on, off in way:
        calls += gate(kind, target, on, off)
    return calls


def plain_after(n, place, way):
    """The plain state once the gates are done."""
    plain = PlainState(n, place)
    for kind, target, on, off in way:
        plain.gate(kind, target, on, off)
    return plain


def on_qubit(letters, qubit):
    return "".join(f"{letter}{qubit} " for letter in letters)


def plain_qubit(letters):
    return plain_after(1, 0, [(LETTERS.index(letter), 0, 0, 0) for letter in letters])


def side_by_side(rows):
    """The plain state of qubits that each go their own way, the first the lowest."""
    whole = plain_qubit(rows[0])
    for letters in rows[1:]:
        whole = whole.beside(plain_qubit(letters))
    return whole


def text_of(rows):
    return "".join(on_qubit(letters, qubit) for qubit, letters in enumerate(rows))
