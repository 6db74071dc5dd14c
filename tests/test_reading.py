"""Which texts are programs, and which line is told where one isn't."""

import unittest

from helping import HIGHEST, LOWEST, answer, as_list, known
from sameruns.desk import bt_known


class Case(unittest.TestCase):
    def refused(self, source, line, at=0):
        self.assertEqual(answer(at, source), [-100 - line], source[:60])

    def taken(self, source, count):
        got = answer(0, source)
        self.assertEqual(len(got), 129, source[:60])
        self.assertEqual(got[0], count, source[:60])


class Lines(Case):
    def test_empty_text(self):
        self.assertEqual(answer(0, ""), [0] * 129)
        self.assertEqual(answer(1, ""), [-4])

    def test_lines_without_words(self):
        self.assertEqual(answer(0, "\n"), [0] * 129)
        self.assertEqual(answer(0, "\n\n \t\r\n  "), [0] * 129)
        self.assertEqual(answer(1, "\n\n"), [-4])

    def test_last_line(self):
        self.assertEqual(known(1, "x = 5"), {"x": 5})
        self.assertEqual(known(1, "x = 5\n"), {"x": 5})
        self.assertEqual(answer(2, "x = 5\n"), [-4])
        self.refused("x = 5\n?", 2)
        self.refused("x = 5\n?\n", 2)
        self.refused("x = 5\n\n?", 3)

    def test_lines_are_counted_with_empty_ones_and_labels(self):
        self.refused("\n \nlabel a\nend\n\nwrong", 6)
        self.refused("wrong", 1)
        self.refused("\n" * 65535 + "x", 65536)

    def test_longest_texts(self):
        self.assertEqual(answer(0, "\n" * 65536), [0] * 129)
        self.assertEqual(answer(0, " " * 65536), [0] * 129)
        self.refused("a" * 65536, 1)
        text = "".join(f"label l{k}\n" for k in range(5000))
        self.assertEqual(answer(0, text), [0] * 129)
        self.refused(text + "label l4999\n", 5001)

    def test_blanks(self):
        self.assertEqual(known(1, " \t\r x\t=\r 7 \t\r"), {"x": 7})
        self.assertEqual(known(1, "x = 7\r\n\r\nprint x\r\n"), {"x": 7})
        self.assertEqual(known(0, "\tif\tx\tgoto\ta\nlabel  a  \n"), {"x": 0})

    def test_all_other_bytes_are_no_blanks(self):
        for sign in range(256):
            if sign in (9, 10, 13, 32):
                continue
            self.refused(b"end" + bytes([sign]) + b"\n", 1)
            self.refused(b"\nx =" + bytes([sign]) + b"5", 2)

    def test_words_stand_apart(self):
        for line in ("x=5", "x =5", "x= 5", "x = y+ z", "x = y +z", "x = y + z w", "ifx goto a", "gotoa", "labela"):
            self.refused("label a\n" + line, 2)

    def test_forms_that_are_none(self):
        for line in (
            "x", "x =", "= x", "= 5", "x = 5 6", "x = y +", "x = y z", "x = y + z +", "x = y + z + w",
            "x == y", "x = + y", "x = - 5", "x = y + 5", "x = 5 + y", "x = 5 + 6", "x = read + y",
            "x = y + read", "x = y read z", "x + y", "x y = z", "y + = x z",
            "print", "print 5", "print x y", "print read", "print x = 5",
            "goto", "goto a a", "goto 5", "goto if", "if", "if x", "if x goto", "if x goto 5", "if 5 goto a",
            "if x print a", "if x goto a a", "if read goto a", "if x a goto", "x goto a",
            "end end", "end x", "end = 5", "label", "label b c", "label 5", "label read", "read", "read x",
            "read = x", "goto = 5", "print = 5", "if = x", "label = 5", "5 = x", "-5", "x = X", "END", "Print x",
            "jump a", "x a", "read a", "x x goto a", "goto x goto a", "print x goto a", "# x",
            "x = y ! z", "x = y = z", "x = y > z", "x = y <= z", "x = y >= z", "x = y != z", "x = y ** z",
            "x = y // z", "x = y && z", "x = y || z", "x = y <<< z", "x = y >>> z", "x = y === z", "x = y plus z",
        ):
            self.refused("label a\n" + line + "\nend", 2)

    def test_forms_that_are_some(self):
        for line, count in (
            ("x = 5", 1), ("x = -5", 1), ("x = y", 2), ("x = x", 1), ("x = read", 1), ("print x", 1), ("goto a", 0),
            ("if x goto a", 1), ("end", 0), ("x = y + z", 3), ("x = y + y", 2), ("x = x + x", 1), ("", 0),
            ("label b", 0), ("goto b\nlabel b", 0),
        ):
            self.taken("label a\n" + line + "\nend", count)
        for operator in "+ - * / % & | ^ << >> < ==".split():
            self.taken(f"x = y {operator} z", 3)


class Names(Case):
    def test_signs_of_names(self):
        for name in ("a", "z", "a0", "z9", "a_", "a__9", "abcdefghijklmnop", "a234567890123456"):
            self.assertEqual(known(1, f"{name} = 3"), {name: 3})
            self.taken(f"goto {name}\nlabel {name}", 0)
        for name in ("0a", "9", "_a", "_", "A", "aB", "a-", "a.b", "a\xe4", "a\x00", "`", "{", "a`", "a{", "a@", "a/",
                     "a:", "a[", "a^"):
            self.refused(f"{name} = 3", 1)
            if name != "9":
                self.refused(f"x = {name}", 1)
            self.refused(f"print {name}", 1)
            self.refused(f"label {name}", 1)
            self.refused(f"label a\ngoto {name}", 2)
            self.refused(f"label a\nif {name} goto a", 2)
            self.refused(f"label a\nif x goto {name}", 2)
            self.refused(f"x = {name} + y", 1)
            self.refused(f"x = y + {name}", 1)

    def test_lengths_of_names(self):
        for length, fits in ((1, True), (15, True), (16, True), (17, False), (40, False)):
            name = "n" * length
            for line in (f"{name} = 1", f"x = {name}", f"print {name}", f"label {name}", f"x = y + {name}"):
                got = answer(0, line)
                self.assertEqual(len(got) == 129, fits, line)
                self.assertEqual(got[0] == -101, not fits, line)
            jump = f"label {name}\ngoto {name}"
            self.assertEqual(len(answer(0, jump)) == 129, fits)

    def test_six_words_are_no_names(self):
        for word in ("label", "goto", "if", "print", "read", "end"):
            for line in (f"{word} = 1", f"{word} = x", f"print {word}", f"label {word}", f"x = {word} + y",
                         f"x = y + {word}", f"if {word} goto a", f"if x goto {word}", f"goto {word}"):
                self.refused("label a\n" + line, 2)
            if word != "read":
                self.refused(f"x = {word}", 1)
            self.taken(f"{word}s = 1\nlabel {word}_\nprint x{word}", 2)

    def test_variable_and_label_of_one_name(self):
        self.assertEqual(known(1, "x = 5\nlabel x\nprint x\ngoto x"), {"x": 5})
        self.assertEqual(known(2, "x = 5\nif x goto x\nlabel x"), {"x": 5})

    def test_variables_are_numbered_by_where_they_first_stand(self):
        got = answer(5, "c = 1\nb = c - a\nprint d\nif e goto l\nx = read\nlabel l")
        self.assertEqual(got[0], 6)
        self.assertEqual(got[1:17], [1, 1, 1, 1, 1, 0, 1, 0, 1, 0, 0, 0, 0, 0, 0, 0])
        got = answer(4, "x = y + z\nz = 3\ny = 2\nx = 1")
        self.assertEqual(got[:7], [3, 1, 1, 1, 2, 1, 3])
        got = answer(3, "if b goto a\nlabel a\nb = 1\na = 2")
        self.assertEqual(got[:5], [2, 1, 1, 1, 2])

    def test_variables_that_are_not_come_to_count(self):
        self.assertEqual(answer(0, "end\nx = 5\nprint y")[:7], [2, 1, 0, 1, 0, 0, 0])


class Numbers(Case):
    def test_numbers(self):
        for word, number in (
            ("0", 0), ("-0", 0), ("-000", 0), ("7", 7), ("-7", -7), ("007", 7), ("-007", -7),
            ("1234567890", 1234567890),
            ("0000000000000000000", 0), ("0000000000000000001", 1), ("-0000000000000000001", -1),
            ("1000000000000000000", 10 ** 18), ("9223372036854775807", HIGHEST), ("-9223372036854775808", LOWEST),
            ("-9223372036854775807", LOWEST + 1), ("9223372036854775806", HIGHEST - 1),
        ):
            self.assertEqual(known(1, f"x = {word}"), {"x": number})

    def test_wrong_numbers(self):
        for word in (
            "9223372036854775808", "-9223372036854775809", "9999999999999999999", "-9999999999999999999",
            "10000000000000000000", "00000000000000000000", "00000000000000000001", "-00000000000000000001",
            "-", "--1", "+1", "1-", "1-1", "1a", "0x1", "1_0", "1.0", "-a", "1" * 400, "/", ":", "1:", "1/",
        ):
            self.refused(f"x = {word}", 1)


class TooMany(Case):
    def test_instructions(self):
        self.assertEqual(known(256, "x = 1\n" * 256), {"x": 1})
        self.assertEqual(answer(257, "x = 1\n" * 256), [-4])
        self.refused("x = 1\n" * 257, 257)
        self.refused("x = 1\n\n" * 257, 513)
        self.refused("end\n" * 300, 257)
        for line in ("x = 2", "x = y", "x = x + x", "x = read", "print x", "goto a", "if x goto a", "end"):
            self.taken("label a\n" + "x = 1\n" * 255 + line, 2 if "y" in line else 1)
            self.refused("label a\n" + "x = 1\n" * 256 + line, 258)

    def test_labels_are_no_instructions(self):
        labels = "".join(f"label l{k}\n" for k in range(300))
        self.assertEqual(known(256, labels + "x = 1\n" * 256 + "label z\n\n"), {"x": 1})

    def test_variables(self):
        some = "".join(f"v{k} = {k}\n" for k in range(64))
        got = answer(64, some)
        self.assertEqual(got, [64] + [number for k in range(64) for number in (1, k)])
        self.taken(some + "v3 = v63 + v0\n", 64)
        for line in ("w = 1", "v1 = w", "print w", "if w goto v1", "v1 = w + v2", "v1 = v2 + w", "w = read"):
            self.refused(some + "label v1\n" + line, 66)
        self.refused("".join(f"v{k} = v{k + 1} + v{k + 2}\n" for k in range(0, 80, 3)), 22)

    def test_first_of_them_is_told(self):
        some = "".join(f"v{k} = {k}\n" for k in range(64))
        self.refused(some + "w = 1\nwrong\n", 65)
        self.refused(some + "wrong\nw = 1\n", 65)
        self.refused("end\n" * 256 + "wrong\nend\n", 257)
        self.refused("end\n" * 256 + "end\nwrong\n", 257)
        self.refused("end\n" * 256 + "\nlabel a\nlabel a\nend\n", 259)


class Labels(Case):
    def test_label_said_again(self):
        self.refused("label a\nlabel a", 2)
        self.refused("label a\nend\n\nlabel b\nlabel a\nlabel b", 5)
        self.taken("label a\nlabel aa\nlabel b", 0)

    def test_label_that_is_not_there(self):
        self.refused("goto a", 1)
        self.refused("x = 1\nif x goto a", 2)
        self.refused("label a\ngoto a\n\ngoto b\ngoto c", 4)
        self.refused("a = 1\ngoto a", 2)
        self.refused("end\ngoto a", 2)

    def test_wrong_line_is_told_ahead_of_missing_label(self):
        self.refused("goto a\nwrong", 2)
        self.refused("goto a\nlabel b\nlabel b", 3)
        self.refused("goto a\n" + "end\n" * 256, 257)
        self.refused("goto a\n" + "".join(f"v{k} = 1\n" for k in range(65)), 66)
        self.refused("if x goto a\ngoto b\nend\nlabel b", 1)

    def test_jump_to_what_is_no_name_is_a_wrong_line(self):
        for word in ("5", "if", "_a", "n" * 17, "A"):
            self.refused(f"goto {word}\nwrong", 1)
            self.refused(f"if x goto {word}\nwrong", 1)
            self.refused(f"goto a\ngoto {word}", 2)
            self.refused(f"goto a\nif x goto {word}", 2)

    def test_lines_are_told_ahead_of_the_place(self):
        for at in (-1, 1, 5, -2147483648, 2147483647):
            self.refused("wrong", 1, at)
            self.refused("goto a", 1, at)
            self.refused("end\nx = 1\ngoto a", 3, at)

    def test_label_ahead_and_behind(self):
        self.assertEqual(known(2, "goto a\nx = 5\nlabel a"), {"x": 0})
        self.assertEqual(known(1, "label a\nlabel b\nx = 5\nlabel c\nlabel d"), {"x": 5})


class Calls(unittest.TestCase):
    def test_what_is_handed_in_stays(self):
        for source in ("x = 5\nlabel a\nx = x + x\ngoto a\n", "wrong", "", "goto a", "end\nprint x"):
            for at in (0, 1, 9):
                text = as_list(source)
                bt_known(at, text)
                self.assertEqual(text, as_list(source))

    def test_same_answer_each_time(self):
        sources = ("x = 5\ny = x * x", "wrong", "y = read\nif y goto b\nx = 1\nlabel b", "goto y", "end")
        first = [answer(at, source) for source in sources for at in range(4)]
        again = [answer(at, source) for source in sources for at in range(4)]
        self.assertEqual(first, again)
        one = answer(0, "x = 5")
        one.append(9)
        one[0] = 7
        self.assertEqual(answer(0, "x = 5"), [1, 1, 0] + [0] * 126)

    def test_plain_whole_numbers_in_a_list(self):
        for source in ("x = 5\ny = x < x\nz = x == x", "wrong", "end\nend"):
            for at in (0, 1, 2, 3, 4):
                got = answer(at, source)
                self.assertIs(type(got), list)
                self.assertTrue(all(type(number) is int for number in got))
                self.assertIn(len(got), (1, 129))
                self.assertEqual(len(got) == 1, got[0] < 0)


if __name__ == "__main__":
    unittest.main()
