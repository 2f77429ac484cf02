"""A value with one thing in it moved, left out, put in, exchanged, or of another kind."""

from fractions import Fraction

WORDS = [
    "alike", "unlike", "composed", "has order", "taken", "not taken", "residues tell", "residues do not tell", "twins",
    "class polynomial", "order", "falls wholly", "does not fall wholly", "rings", "", "fly", " taken"]


def variants(value):
    if isinstance(value, str):
        yield from (word for word in WORDS if word != value)
        yield from (value.capitalize(), value + " ", None, (value,), value.encode(), 1)
    elif isinstance(value, tuple):
        yield from (list(value), None, (value,), str(value), dict.fromkeys(range(len(value))))
        yield from (value + (0,), value + ((),))
        yield from (value + value[-1:], value[:1] + value, (0,) + value, value[::-1], value + (True,))
        for at, part in enumerate(value):
            yield value[:at] + value[at + 1:]
            yield value[:at + 1] + value[at:]
            for other in variants(part):
                yield value[:at] + (other,) + value[at + 1:]
        for at in range(len(value) - 1):
            yield value[:at] + (value[at + 1], value[at]) + value[at + 2:]
    else:
        yield from (value + 1, value - 1, -value, value + 23, 0, 1, 10 ** 99, -(10 ** 99))
        yield from (str(value), None, (value,), [value], Fraction(value), (), True, False, object())
