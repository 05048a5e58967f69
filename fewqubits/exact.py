"""Exact numbers, worked on list by list.

A number a + b w + c w^2 + d w^3, where w is the eighth of a turn, is the
tuple (a, b, c, d). The root of 2 is w - w^3.
"""

ZERO = (0, 0, 0, 0)
ONE = (1, 0, 0, 0)


def added(xs, ys):
    """Each x + y."""
    return [(x[0] + y[0], x[1] + y[1], x[2] + y[2], x[3] + y[3]) for x, y in zip(xs, ys)]


def subtracted(xs, ys):
    """Each x - y."""
    return [(x[0] - y[0], x[1] - y[1], x[2] - y[2], x[3] - y[3]) for x, y in zip(xs, ys)]


def turned(numbers, eighths):
    """Each number times w to the power eighths, which is from 0 to 7."""
    if eighths & 1:
        numbers = [(-d, a, b, c) for a, b, c, d in numbers]
    if eighths & 2:
        numbers = [(-c, -d, a, b) for a, b, c, d in numbers]
    if eighths & 4:
        numbers = [(-a, -b, -c, -d) for a, b, c, d in numbers]
    return numbers


def times_root(numbers):
    """Each number times the root of 2."""
    return [(b - d, a + c, b + d, c - a) for a, b, c, d in numbers]


def over_root(numbers):
    """Each number over the root of 2; all of them must hold it."""
    # One over the root is the root over 2, so this is times_root, halved.
    return [((b - d) // 2, (a + c) // 2, (b + d) // 2, (c - a) // 2) for a, b, c, d in numbers]


def all_hold_root(numbers):
    """Whether each number is the root of 2 times whole a, b, c, d."""
    # These two sums are odd or even as the other two of over_root are.
    for a, b, c, d in numbers:
        if (a + c) % 2 != 0 or (b + d) % 2 != 0:
            return False
    return True


def squared_sizes(numbers):
    """Of each number its size squared, which is x + y times the root of 2, as (x, y)."""
    return [(a * a + b * b + c * c + d * d, a * b + b * c + c * d - d * a) for a, b, c, d in numbers]


def is_below(whole, x, y):
    """Whether whole is below x + y times the root of 2."""
    rest = x - whole
    # A square that keeps its sign keeps the order too, and rids the root: no rounding.
    return rest * abs(rest) + 2 * y * abs(y) > 0
