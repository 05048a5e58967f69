"""How the calls are written in the list that is handed in."""


def begin(n, place):
    return [0, n, place]


def gate(kind, target, on=0, off=0):
    return [1, kind, target, on, off]


def codes(text):
    return list(text.encode("latin-1"))


def run(text):
    return [2, len(text)] + codes(text)


def first_numbers(given):
    """The answers of calls that answer one number each, without the counts."""
    assert all(count == 1 for count in given[0::2]), given
    return given[1::2]
