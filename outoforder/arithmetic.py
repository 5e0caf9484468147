"""Sums on numbers of 32 bits, and what the instructions make of their values."""


def wrapped(number):
    return number % 4294967296


def signed(number):
    return number - 4294967296 if number >= 2147483648 else number


def calculated(op, first, second):
    """What d becomes by an op of 1 to 9; where it divides, the second isn't 0."""
    if op == 1:
        return wrapped(first + second)
    if op == 2:
        return wrapped(first - second)
    if op == 3:
        return first & second
    if op == 4:
        return first | second
    if op == 5:
        return first ^ second
    if op == 6:
        return wrapped(first << (second % 32))
    if op == 7:
        return first >> (second % 32)
    if op == 8:
        return wrapped(first * second)
    return first // second


def jumps(op, first, second):
    """Whether an op of 14 to 16 goes on at its jump's place."""
    if op == 14:
        return first == second
    if op == 15:
        return first != second
    return signed(first) < signed(second)
