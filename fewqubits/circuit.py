"""Gates told by a text, which is a list of bytes."""

BLANKS = (32, 10)
PLUS = 43
MINUS = 45
ZERO_DIGIT = 48
NINE_DIGIT = 57

# The letters X, Y, Z, S, s, T, t, H as bytes, each with its kind of gate.
KINDS = {88: 0, 89: 1, 90: 2, 83: 3, 115: 4, 84: 5, 116: 6, 72: 7}


def words(text):
    """What stands between the text's blanks, as lists of bytes."""
    found = []
    word = []
    for byte in text:
        if byte not in BLANKS:
            word.append(byte)
        elif len(word) > 0:
            found.append(word)
            word = []
    if len(word) > 0:
        found.append(word)
    return found


def digit(byte):
    """The digit that a byte stands for, or None."""
    if ZERO_DIGIT <= byte <= NINE_DIGIT:
        return byte - ZERO_DIGIT
    return None


def told_gate(word):
    """The gate (kind, target, on, off) that a word tells, or None if it tells none."""
    if len(word) % 2 != 0:
        return None
    kind = KINDS.get(word[0])
    target = digit(word[1])
    if kind is None or target is None:
        return None
    seen = 1 << target
    on = 0
    off = 0
    for at in range(2, len(word), 2):
        control = digit(word[at + 1])
        # A digit told twice adds no new bit, so gate itself could not see it.
        if control is None or seen & (1 << control):
            return None
        seen = seen | (1 << control)
        if word[at] == PLUS:
            on = on | (1 << control)
        elif word[at] == MINUS:
            off = off | (1 << control)
        else:
            return None
    return (kind, target, on, off)
