"""What the operators give, asked through bt_known."""

import unittest

from helping import HIGHEST, LOWEST, known

OPERATORS = "+ - * / % & | ^ << >> < ==".split()
EDGES = (0, 1, -1, 2, -2, 3, -3, 7, -7, 10, 62, 63, 64, 65, 127, -63, -64, -65, 2 ** 31, -2 ** 31, 2 ** 32 + 1,
         3037000500, -3037000500, 2 ** 62, -2 ** 62, HIGHEST, HIGHEST - 1, LOWEST, LOWEST + 1, 0x5555555555555555)


def as_bits(number):
    return format(int.from_bytes(number.to_bytes(8, "big", signed=True), "big"), "064b")


def from_bits(bits):
    return int.from_bytes(int(bits[-64:], 2).to_bytes(8, "big"), "big", signed=True)


def bit_by_bit(y, z, table):
    return from_bits("".join(table[int(a) + int(b)] for a, b in zip(as_bits(y), as_bits(z))))


def low_part(number):
    """By its two's complement bits, so that it stands apart from the program's own way."""
    return from_bits(format(number % 2 ** 64, "064b"))


def quotient(y, z):
    """The largest whole size whose product with z stays within y, with the sign of both."""
    if z == 0:
        return 0
    size = max(abs(y) // abs(z) - 1, 0)
    while (size + 1) * abs(z) <= abs(y):
        size += 1
    return size if y * z > 0 else -size


def expected(y, operator, z):
    by = int(as_bits(z)[-6:], 2)
    if operator == "+":
        return low_part(y + z)
    if operator == "-":
        return low_part(y - z)
    if operator == "*":
        return low_part(y * z)
    if operator == "/":
        return low_part(quotient(y, z))
    if operator == "%":
        return y if z == 0 else y - quotient(y, z) * z
    if operator in "&|^":
        return bit_by_bit(y, z, {"&": "001", "|": "011", "^": "010"}[operator])
    if operator == "<<":
        return from_bits(as_bits(y) + "0" * by)
    if operator == ">>":
        bits = as_bits(y)
        return from_bits(bits[0] * by + bits[:64 - by])
    if operator == "<":
        return 1 if y < z else 0
    return 1 if y == z else 0


def given(y, operator, z):
    return known(3, f"y = {y}\nz = {z}\nx = y {operator} z")["x"]


class Written(unittest.TestCase):
    """Numbers written out, as the document tells them."""

    def check(self, *rows):
        for y, operator, z, number in rows:
            self.assertEqual(given(y, operator, z), number, (y, operator, z))

    def test_ordinary_ones(self):
        self.check((2, "+", 3, 5), (2, "-", 3, -1), (4, "*", -3, -12), (7, "/", 2, 3), (7, "%", 2, 1), (12, "&", 10, 8),
                   (12, "|", 10, 14), (12, "^", 10, 6), (3, "<<", 4, 48), (48, ">>", 4, 3), (2, "<", 3, 1),
                   (3, "<", 2, 0), (3, "<", 3, 0), (3, "==", 3, 1), (3, "==", 2, 0))

    def test_modulo(self):
        self.check((HIGHEST, "+", 1, LOWEST), (LOWEST, "+", -1, HIGHEST), (LOWEST, "-", 1, HIGHEST),
                   (0, "-", LOWEST, LOWEST), (HIGHEST, "*", 2, -2), (LOWEST, "*", -1, LOWEST), (2 ** 62, "*", 4, 0),
                   (HIGHEST, "*", HIGHEST, 1), (LOWEST, "+", LOWEST, 0), (HIGHEST, "-", LOWEST, -1))

    def test_division_cuts_toward_zero(self):
        self.check((7, "/", -2, -3), (-7, "/", 2, -3), (-7, "/", -2, 3), (-1, "/", 2, 0), (1, "/", -2, 0),
                   (HIGHEST, "/", LOWEST, 0), (LOWEST, "/", HIGHEST, -1), (LOWEST, "/", 1, LOWEST),
                   (9007199254740993, "/", 1, 9007199254740993))

    def test_rest(self):
        self.check((7, "%", -2, 1), (-7, "%", 2, -1), (-7, "%", -2, -1), (-1, "%", 2, -1), (-6, "%", 2, 0),
                   (LOWEST, "%", HIGHEST, -1), (HIGHEST, "%", LOWEST, HIGHEST))

    def test_by_zero(self):
        self.check((7, "/", 0, 0), (-7, "/", 0, 0), (0, "/", 0, 0), (LOWEST, "/", 0, 0),
                   (7, "%", 0, 7), (-7, "%", 0, -7), (0, "%", 0, 0), (LOWEST, "%", 0, LOWEST))

    def test_lowest_by_minus_one(self):
        self.check((LOWEST, "/", -1, LOWEST), (LOWEST, "%", -1, 0), (LOWEST + 1, "/", -1, HIGHEST))

    def test_bits_below_zero(self):
        self.check((-1, "&", 5, 5), (-2, "|", 1, -1), (-1, "^", 5, -6), (LOWEST, "^", -1, HIGHEST),
                   (LOWEST, "|", HIGHEST, -1), (LOWEST, "&", HIGHEST, 0))

    def test_shifts(self):
        self.check((1, "<<", 63, LOWEST), (1, "<<", 64, 1), (1, "<<", 65, 2), (3, "<<", 63, LOWEST), (2, "<<", 63, 0),
                   (1, "<<", -1, LOWEST), (1, "<<", -64, 1), (5, "<<", -63, 10), (-1, "<<", 4, -16), (5, "<<", 0, 5),
                   (HIGHEST, "<<", 1, -2), (1, "<<", LOWEST, 1), (1, "<<", HIGHEST, LOWEST),
                   (-1, ">>", 1, -1), (-7, ">>", 1, -4), (7, ">>", 1, 3), (LOWEST, ">>", 63, -1),
                   (HIGHEST, ">>", 63, 0), (5, ">>", 64, 5), (5, ">>", 65, 2),
                   (LOWEST, ">>", -1, -1), (9, ">>", -63, 4), (9, ">>", -64, 9))

    def test_less_with_a_sign(self):
        self.check((-1, "<", 0, 1), (0, "<", -1, 0), (LOWEST, "<", HIGHEST, 1), (HIGHEST, "<", LOWEST, 0))


class AllEdges(unittest.TestCase):
    def test_each_operator_on_each_pair(self):
        for operator in OPERATORS:
            for y in EDGES:
                for z in EDGES:
                    self.assertEqual(given(y, operator, z), expected(y, operator, z), (y, operator, z))


class Unknown(unittest.TestCase):
    def test_with_an_unknown_one(self):
        for operator in OPERATORS:
            for number in (0, 1, -1, 5):
                for lines, place in ((f"y = {number}\nz = read\n", 3), (f"z = {number}\ny = read\n", 3),
                                     ("y = read\nz = read\n", 3), ("y = read\nz = y\n", 3)):
                    source = f"{lines}x = y {operator} z"
                    self.assertIsNone(known(place, source)["x"], source)

    def test_unknown_with_itself(self):
        for operator in OPERATORS:
            self.assertEqual(known(3, f"x = 5\ny = read\nx = y {operator} y"), {"x": None, "y": None})

    def test_variable_that_is_used_and_given(self):
        self.assertEqual(known(2, "x = 5\nx = x * x"), {"x": 25})
        self.assertEqual(known(3, "x = 5\ny = 2\nx = y - x"), {"x": -3, "y": 2})
        self.assertEqual(known(2, "x = read\nx = x - x"), {"x": None})


if __name__ == "__main__":
    unittest.main()
