"""The twelve operators, on whole numbers of 64 bits with a sign."""

ALL_NUMBERS = 18446744073709551616
NUMBERS_BELOW_ZERO = 9223372036854775808
SHIFT_BITS = 63


def wrapped(number):
    """The number of 64 bits with a sign that is the same modulo 2^64."""
    return (number + NUMBERS_BELOW_ZERO) % ALL_NUMBERS - NUMBERS_BELOW_ZERO


def plus(y, z):
    return wrapped(y + z)


def minus(y, z):
    return wrapped(y - z)


def times(y, z):
    return wrapped(y * z)


def divided(y, z):
    if z == 0:
        return 0
    size = abs(y) // abs(z)
    # Wrapped, since the lowest number by -1 would be one above the highest.
    return wrapped(size if (y < 0) == (z < 0) else -size)


def rest(y, z):
    if z == 0:
        return y
    size = abs(y) % abs(z)
    return -size if y < 0 else size


def both_bits(y, z):
    return y & z


def either_bits(y, z):
    return y | z


def differing_bits(y, z):
    return y ^ z


def shifted_up(y, z):
    return wrapped(y << (z & SHIFT_BITS))


def shifted_down(y, z):
    return y >> (z & SHIFT_BITS)


def is_less(y, z):
    return 1 if y < z else 0


def is_same(y, z):
    return 1 if y == z else 0


# By the bytes that write them: + - * / and the rest's sign, & | ^ << >> < ==
OPERATORS = {
    (43,): plus,
    (45,): minus,
    (42,): times,
    (47,): divided,
    (37,): rest,
    (38,): both_bits,
    (124,): either_bits,
    (94,): differing_bits,
    (60, 60): shifted_up,
    (62, 62): shifted_down,
    (60,): is_less,
    (61, 61): is_same,
}


def is_operator(word):
    return word in OPERATORS


def reckoned(operator, y, z):
    """What `y OP z` gives."""
    reckon = OPERATORS[operator]
    return reckon(y, z)
