"""How the calls are written in the list that is handed in, and the answers read."""

from fewqubits.state import answers


def begin(n, place):
    return [0, n, place]


def gate(kind, target, on=0, off=0):
    return [1, kind, target, on, off]


def codes(text):
    return list(text.encode("latin-1"))


def run(text):
    return [2, len(text)] + codes(text)


def amplitude(place):
    return [3, place]


def chance(mask, value):
    return [4, mask, value]


def draw(number):
    return [5, number]


def one_by_one(given):
    """The answers as a list for each call, without the counts."""
    found = []
    at = 0
    while at < len(given):
        found.append(given[at + 1:at + 1 + given[at]])
        assert len(found[-1]) == given[at] > 0, given
        at += 1 + given[at]
    return found


def asked(before, questions):
    """What each of these calls is answered behind the calls before, which are 100 at most."""
    found = []
    for at in range(0, len(questions), 200):
        some = questions[at:at + 200]
        given = one_by_one(answers(before + [number for question in some for number in question]))
        assert len(given) <= 300
        found += given[-len(some):]
    return found


def first_numbers(given):
    """The answers of calls that answer one number each, without the counts."""
    assert all(count == 1 for count in given[0::2]), given
    return given[1::2]
