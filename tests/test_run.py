"""What bt_run answers: each instruction by itself, the numbers handed over, steps, prints, refusals, the edges."""

import time
import unittest

from helping import HIGHEST, LOWEST, answer, as_list, better, lines, ran
from sameruns.desk import bt_better, bt_known, bt_run
from test_reckoning import EDGES, OPERATORS, expected


class Case(unittest.TestCase):
    def gives(self, source, inputs, printed, steps):
        """As it is; made better, it prints the same in no more steps."""
        self.assertEqual(ran(source, inputs), (printed, steps), source[:400])
        made_printed, made_steps = ran(source, inputs, made=1)
        self.assertEqual(made_printed, printed, source[:400])
        self.assertLessEqual(made_steps, steps, source[:400])


class Answers(unittest.TestCase):
    def test_whole_answers(self):
        text = as_list("x = read\nprint x\ny = 5\nprint y\nend")
        self.assertEqual(bt_run(0, 10, 10, text, [7, 8]), [2, 7, 5, 4])
        self.assertEqual(bt_run(1, 10, 10, text, [7, 8]), [2, 7, 5, 4])
        self.assertEqual(bt_run(0, 10, 10, as_list("x = 3\ny = x"), []), [0, 2])
        self.assertEqual(bt_run(1, 10, 10, as_list("x = 3\ny = x"), []), [0, 0])
        self.assertEqual(bt_run(0, 0, 0, [], []), [0, 0])

    def test_printed_numbers_below_zero_are_no_refusals(self):
        self.assertEqual(bt_run(0, 9, 9, as_list("x = -5\nprint x\nprint x"), []), [2, -5, -5, 3])

    def test_by_names_of_the_interface(self):
        self.assertEqual(bt_run(made=0, steps=2, most=1, text=as_list("x = read\nprint x"), inputs=[4]), [1, 4, 2])


class Instructions(Case):
    def test_number(self):
        for number in (0, 1, -1, 7, HIGHEST, LOWEST):
            self.gives(f"x = {number}\nprint x", [], [number], 2)
        self.gives("x = 007\nprint x\nx = -0\nprint x\nx = -0000000000000000012\nprint x", [], [7, 0, -12], 6)
        self.gives("x = 1\nx = 2\nprint x", [], [2], 3)

    def test_copy(self):
        self.gives("x = 5\ny = x\nx = 6\nprint y\nprint x", [], [5, 6], 5)
        self.gives("x = read\ny = x\nx = read\nprint y\nprint x", [8, 9], [8, 9], 5)
        self.gives("x = 5\nx = x\nprint x", [], [5], 3)
        self.gives("x = y\nprint x", [], [0], 2)

    def test_operator(self):
        self.gives("y = 7\nz = 2\nx = y - z\nprint x\nprint y\nprint z", [], [5, 7, 2], 6)
        self.gives("x = 7\nx = x * x\nprint x", [], [49], 3)
        self.gives("x = 7\ny = 3\nx = y - x\nprint x", [], [-4], 4)
        self.gives("x = y - z\nprint x", [], [0], 2)

    def test_read(self):
        self.gives("x = read\nprint x", [5], [5], 2)
        self.gives("read1 = read\nprint read1", [5], [5], 2)

    def test_print(self):
        self.gives("print x", [], [0], 1)
        self.gives("x = 3\nprint x\nprint x\nprint y", [], [3, 3, 0], 4)

    def test_variables_are_zero_at_first(self):
        self.gives("print a\nprint b\nx = read\nprint x\nprint a", [4], [0, 0, 4, 0], 5)
        self.gives("if x goto a\nprint y\nlabel a", [], [0], 2)

    def test_goto(self):
        self.gives("goto a\nprint x\nlabel a", [], [], 1)
        self.gives("goto a\nprint x\nlabel a\nx = 4\nprint x", [], [4], 3)
        self.gives("goto b\nlabel a\nprint x\ngoto c\nlabel b\nx = 1\ngoto a\nlabel c", [], [1], 5)

    def test_if(self):
        source = "x = read\nif x goto a\ny = 1\nlabel a\nprint y"
        self.gives(source, [0], [1], 4)
        for number in (1, -1, 2, HIGHEST, LOWEST, 2 ** 32, 2 ** 62, -256):
            self.gives(source, [number], [0], 3)

    def test_if_by_what_is_known(self):
        self.gives("x = 3\nif x goto a\nprint x\nlabel a\nprint y", [], [0], 3)
        self.gives("if x goto a\nprint x\nlabel a\nprint y", [], [0, 0], 3)

    def test_if_changes_nothing(self):
        self.gives("x = read\nif x goto a\nlabel a\nprint x", [6], [6], 3)

    def test_end_is_no_step(self):
        self.gives("end", [], [], 0)
        self.gives("end\nprint x", [], [], 0)
        self.gives("print x\nend\nprint x", [], [0], 1)
        self.gives("x = read\nif x goto a\nend\nlabel a\nprint x\nend", [0], [], 2)
        self.gives("x = read\nif x goto a\nend\nlabel a\nprint x\nend", [4], [4], 3)
        self.gives("goto a\nprint x\nlabel a\nend\nprint x", [], [], 1)

    def test_going_on_behind_the_last_line_is_no_step(self):
        for tail in ("", "\n", "\n\n \t\r\n", "\nlabel a\nlabel b\n", "\nend", "\nlabel a\nend"):
            self.gives("x = 5\nprint x" + tail, [], [5], 2)

    def test_labels_are_no_steps(self):
        self.gives("label a\nlabel b\nprint x\nlabel c\n", [], [0], 1)
        self.gives("label a", [], [], 0)

    def test_label_at_the_end(self):
        self.gives("goto a\nlabel a", [], [], 1)
        self.gives("x = read\nif x goto a\nprint x\nlabel a", [2], [], 2)
        self.gives("x = read\nif x goto a\nprint x\nlabel a\n\n", [0], [0], 3)
        self.gives("print x\ngoto z\nprint x\nlabel y\nlabel z\n", [], [0], 2)

    def test_programs_without_instructions(self):
        for source in ("", "\n", " \t\r\n\n", "label a\nlabel b"):
            for made in (0, 1):
                self.assertEqual(ran(source, [1, 2], made, 0, 0), ([], 0))

    def test_variables_and_labels_of_one_name(self):
        self.gives("a = read\nif a goto a\nprint a\nlabel a\na = a + a\nprint a", [3], [6], 4)

    def test_loop(self):
        source = "n = read\ns = 0\none = 1\nlabel a\ns = s + n\nn = n - one\nif n goto a\nprint s"
        for n in (1, 2, 10, 100):
            self.gives(source, [n], [n * (n + 1) // 2], 3 + 3 * n + 1)

    def test_loops_within_one_another(self):
        source = lines("one = 1", "y = 0", "label b", "x = 0", "label a", "p = x * y", "print p", "x = x + one",
                       "c = x - y", "d = c < one", "if d goto a", "y = y + one", "four = 4", "e = y < four",
                       "if e goto b")
        printed = [x * y for y in range(4) for x in range(y + 1)]
        self.gives(source, [], printed, 2 + 6 * len(printed) + 5 * 4)


class Reckoning(unittest.TestCase):
    """All operators on numbers that the program is handed, and on numbers that it has."""

    def test_each_operator_on_each_pair(self):
        rows = [row for operator in OPERATORS for row in (f"x = y {operator} z", "print x")]
        source = lines("label a", "y = read", "z = read", *rows, "goon = read", "if goon goto a")
        inputs = [number for y in EDGES for z in EDGES for number in (y, z, 1)]
        inputs[-1] = 0
        printed = [expected(y, operator, z) for y in EDGES for z in EDGES for operator in OPERATORS]
        steps = len(EDGES) ** 2 * (2 + 2 * len(OPERATORS) + 2)
        for made in (0, 1):
            self.assertEqual(ran(source, inputs, made), (printed, steps))

    def test_numbers_that_the_program_has(self):
        for y in (0, 1, -1, 7, -7, HIGHEST, LOWEST):
            for z in (0, 1, -1, 2, 63, 64, -65, HIGHEST, LOWEST):
                rows = [row for operator in OPERATORS for row in (f"x = y {operator} z", "print x")]
                source = lines(f"y = {y}", f"z = {z}", *rows)
                printed = [expected(y, operator, z) for operator in OPERATORS]
                self.assertEqual(ran(source), (printed, 26))
                self.assertEqual(ran(source, made=1)[0], printed)

    def test_written_ones(self):
        for y, operator, z, number in (
            (HIGHEST, "+", 1, LOWEST), (LOWEST, "-", 1, HIGHEST), (HIGHEST, "*", HIGHEST, 1), (LOWEST, "*", -1, LOWEST),
            (-7, "/", 2, -3), (7, "/", -2, -3), (7, "/", 0, 0), (LOWEST, "/", 0, 0), (LOWEST, "/", -1, LOWEST),
            (-7, "%", 2, -1), (7, "%", -2, 1), (7, "%", 0, 7), (-7, "%", 0, -7), (LOWEST, "%", -1, 0),
            (-1, "&", 5, 5), (-2, "|", 1, -1), (LOWEST, "^", -1, HIGHEST),
            (1, "<<", 63, LOWEST), (1, "<<", 64, 1), (1, "<<", -1, LOWEST), (3, "<<", 65, 6), (-1, "<<", 4, -16),
            (-7, ">>", 1, -4), (LOWEST, ">>", 63, -1), (5, ">>", 64, 5), (LOWEST, ">>", -1, -1), (HIGHEST, ">>", 63, 0),
            (-1, "<", 0, 1), (0, "<", 0, 0), (HIGHEST, "<", LOWEST, 0), (LOWEST, "==", LOWEST, 1), (0, "==", 1, 0),
        ):
            for made in (0, 1):
                handed = f"y = read\nz = read\nx = y {operator} z\nprint x"
                self.assertEqual(ran(handed, [y, z], made), ([number], 4), (y, operator, z))
                held = f"y = {y}\nz = {z}\nx = y {operator} z\nprint x"
                self.assertEqual(ran(held, [], made)[0], [number], (y, operator, z))

    def test_one_variable_with_itself(self):
        for operator in OPERATORS:
            for number in EDGES:
                for made in (0, 1):
                    self.assertEqual(ran(f"x = read\nx = x {operator} x\nprint x", [number], made),
                                     ([expected(number, operator, number)], 3))


class Handed(Case):
    def test_in_their_order(self):
        self.gives("x = read\ny = read\nz = read\nprint z\nprint y\nprint x", [1, 2, 3], [3, 2, 1], 6)
        self.gives("x = read\nprint x\nx = read\nprint x\nx = read\nprint x", [LOWEST, 0, HIGHEST],
                   [LOWEST, 0, HIGHEST], 6)

    def test_zero_once_none_is_left(self):
        source = "x = 9\nx = read\nprint x\nx = read\nprint x\nx = 8\nx = read\nprint x"
        self.gives(source, [5], [5, 0, 0], 8)
        self.gives(source, [], [0, 0, 0], 8)
        self.gives(source, [5, 6], [5, 6, 0], 8)

    def test_not_all_are_read(self):
        self.gives("x = read\nprint x", [5, 6, 7], [5], 2)
        self.gives("print x", [5, 6, 7], [0], 1)

    def test_reads_that_give_what_is_not_needed_still_take(self):
        self.gives("x = read\nx = read\nprint x", [5, 6], [6], 3)
        self.gives("y = read\nx = read\nprint x\nz = read\nx = read\nprint x", [1, 2, 3, 4], [2, 4], 6)

    def test_until_zero(self):
        source = "label a\nx = read\nprint x\nif x goto a"
        self.gives(source, [3, -1, 0, 4], [3, -1, 0], 9)
        self.gives(source, [3, -1], [3, -1, 0], 9)


class Steps(unittest.TestCase):
    def check_steps(self, source, inputs, printed, steps, made=0):
        """It ends within just so many steps, and in more, but not in fewer."""
        for more in (0, 1, 1000000 - steps):
            self.assertEqual(ran(source, inputs, made, steps + more), (printed, steps), source)
        for fewer in sorted({0, 1, steps // 2, steps - 2, steps - 1}):
            if 0 <= fewer < steps:
                self.assertEqual(ran(source, inputs, made, fewer), -5, (source, fewer))

    def test_just_as_many(self):
        self.check_steps("print x", [], [0], 1)
        self.check_steps("print x\nend", [], [0], 1)
        self.check_steps("x = read\nprint x\nprint x", [2], [2, 2], 3)
        self.check_steps("x = read\nif x goto a\nprint x\nlabel a", [2], [], 2)
        self.check_steps("x = read\nif x goto a\nprint x\nlabel a", [0], [0], 3)
        self.check_steps("goto a\nlabel a", [], [], 1)
        self.check_steps("x = read\none = 1\nlabel a\nx = x - one\nif x goto a\nprint x", [50], [0], 103)

    def test_just_as_many_made_better(self):
        self.check_steps("x = 3\ny = 4\nz = x * y\nprint z", [], [12], 2, made=1)
        self.check_steps("goto a\nlabel a", [], [], 0, made=1)
        self.check_steps("x = read\ny = x\ngoto b\nlabel b\nprint y", [6], [6], 2, made=1)

    def test_no_steps(self):
        for source in ("", "\n\n", "label a", "end", "label a\nend\nprint x", "end\nlabel a\ngoto a"):
            for made in (0, 1):
                self.assertEqual(ran(source, [1], made, 0), ([], 0), source)
        for source in ("print x", "x = read", "label a\ngoto a", "print x\nend"):
            for made in (0, 1):
                self.assertEqual(ran(source, [1], made, 0), -5, source)
        for source in ("x = 1", "x = y", "x = y + z", "if x goto a\nlabel a", "goto a\nlabel a"):
            self.assertEqual(ran(source, [1], 0, 0), -5, source)
            self.assertEqual(ran(source, [1], 1, 0), ([], 0), source)

    def test_programs_with_no_end(self):
        for source in ("label a\ngoto a", "label a\ngoto b\nlabel b\ngoto a", "x = 1\nlabel a\nif x goto a",
                       "x = read\nlabel a\nif x goto a", "label a\nprint x\ngoto a", "label a\nx = read\ngoto a",
                       "one = 1\nlabel a\nx = x + one\ny = x * x\nprint y\ngoto a\nend"):
            for made in (0, 1):
                for steps in (0, 1, 2, 3, 100, 99999):
                    self.assertEqual(ran(source, [3], made, steps), -5, source)

    def test_nothing_else_is_told_of_what_is_not_at_its_end(self):
        self.assertEqual(bt_run(0, 2, 9, as_list("x = 5\nprint x\nprint x"), []), [-5])


class Printed(unittest.TestCase):
    def test_just_as_many_as_most(self):
        for count in (0, 1, 2, 17):
            source = lines("x = read", *["print x"] * count)
            for made in (0, 1):
                for most in (count, count + 1, 65536):
                    self.assertEqual(ran(source, [4], made, 100, most), ([4] * count, count + 1))

    def test_more_than_most(self):
        for count in (1, 2, 17):
            source = lines("x = read", *["print x"] * count)
            for made in (0, 1):
                for most in sorted({0, count // 2, count - 1}):
                    self.assertEqual(ran(source, [4], made, 100, most), -1)

    def test_most_zero(self):
        self.assertEqual(ran("x = 5", most=0), ([], 1))
        self.assertEqual(ran("print x", most=0), -1)

    def test_not_at_its_end_ahead_of_printed_too_many(self):
        source = "print x\nprint x\nprint x\ny = read"
        for made in (0, 1):
            self.assertEqual(ran(source, [], made, 3, 2), -5)
            self.assertEqual(ran(source, [], made, 3, 3), -5)
            self.assertEqual(ran(source, [], made, 4, 2), -1)
            self.assertEqual(ran(source, [], made, 4, 3), ([0, 0, 0], 4))
            self.assertEqual(ran("label a\nprint x\ngoto a", [], made, 1000, 0), -5)


class MadeBetter(unittest.TestCase):
    def test_runs_as_its_text_tells(self):
        for source in (
            "x = read\ny = x\nk = 2\nif k goto skip\nprint x\nlabel skip\nz = x * y\nprint z",
            "x = read\ngoto a\nprint x\nlabel a\nif x goto b\ngoto c\nlabel b\nprint x\nlabel c\nend",
            "x = 3\ny = 4\nz = x * y\nprint z\nw = z\nprint w",
        ):
            for inputs in ([], [0], [5], [-3, 2]):
                self.assertEqual(ran(source, inputs, made=1), ran(better(source), inputs), source)

    def test_how_many_steps(self):
        for source, inputs, printed, steps, made_steps in (
            ("x = 1\ny = 2\nprint y", [], [2], 3, 2),
            ("x = read\ny = x\nprint y", [7], [7], 3, 2),
            ("x = read\na = x + x\nb = x + x\nc = a - b\nprint c", [7], [0], 5, 4),
            ("goto a\nlabel b\nprint x\ngoto c\nlabel a\ngoto b\nlabel c", [], [0], 4, 1),
            ("x = read\nif x goto a\nprint y\nlabel a\ngoto b\nlabel c\nend\nlabel b\nprint x\ngoto c", [7], [7], 5, 4),
            ("x = read\nprint x", [7], [7], 2, 2),
        ):
            self.assertEqual(ran(source, inputs), (printed, steps), source)
            self.assertEqual(ran(source, inputs, made=1), (printed, made_steps), source)

    def test_only_made_better_it_is_at_its_end(self):
        for source, inputs, steps, printed in (
            ("x = 1\ny = 2\nprint y", [], 2, [2]), ("x = 1\nx = 2", [], 0, []), ("goto a\nlabel a", [], 0, []),
            ("one = 1\nx = 300\nlabel a\njunk = x * x\nx = x - one\nif x goto a\nprint x", [], 700, [0]),
        ):
            self.assertEqual(ran(source, inputs, 0, steps), -5, source)
            got = ran(source, inputs, 1, steps)
            self.assertEqual(got[0], printed, source)
            self.assertLessEqual(got[1], steps, source)


class Refusals(unittest.TestCase):
    def test_not_in_range(self):
        text = as_list("x = read\nprint x")
        for made, steps, most in (
            (-1, 9, 9), (2, 9, 9), (-2147483648, 9, 9), (2147483647, 9, 9), (256, 9, 9),
            (0, -1, 9), (0, 1000001, 9), (1, -2147483648, 9), (1, 2147483647, 9),
            (0, 9, -1), (0, 9, 65537), (1, 9, -2147483648), (1, 9, 2147483647),
            (-1, -1, -1), (2, 1000001, 65537),
        ):
            self.assertEqual(bt_run(made, steps, most, text, [3]), [-2], (made, steps, most))

    def test_ends_of_the_ranges(self):
        for made in (0, 1):
            for steps in (2, 1000000):
                for most in (1, 65536):
                    self.assertEqual(ran("x = read\nprint x", [3], made, steps, most), ([3], 2))
            self.assertEqual(ran("x = read\nprint x", [3], made, 0, 0), -5)

    def test_wrong_lines(self):
        for source, line in (
            ("wrong", 1), ("x = 5\n\nx = y +", 3), ("label a\nlabel a", 2), ("goto a", 1), ("goto a\nwrong", 2),
            ("end\n" * 257, 257), ("x = 9223372036854775808", 1), ("label a\nif x goto b\ngoto a", 2),
            ("".join(f"v{k} = 1\n" for k in range(65)), 65), ("\n" * 65535 + "x", 65536), ("end\nprint 5", 2),
            ("x = read read", 1), ("end end", 1), ("print x y", 1), ("if x", 1), ("\x0bend", 1), ("End", 1),
        ):
            for made in (0, 1):
                for steps, most in ((0, 0), (1000000, 65536)):
                    self.assertEqual(ran(source, [1], made, steps, most), -100 - line, source[:60])

    def test_same_lines_as_bt_known(self):
        for source in (b"\xff", b"x = 1\n\x00", b"print 5", b"if x goto", b"x == y", b"read = x", b"label label"):
            self.assertEqual([ran(source, [])], answer(0, source))

    def test_order(self):
        for made, steps, most in ((2, 9, 9), (0, -1, 9), (0, 9, -1)):
            self.assertEqual(ran("wrong", [], made, steps, most), -2)
            self.assertEqual(ran("print x\nprint x", [], made, steps, most), -2)
        self.assertEqual(ran("print x\nprint x\nwrong", [], 0, 0, 0), -103)
        self.assertEqual(ran("print x\nlabel a\ngoto a\ngoto b", [], 0, 100, 0), -104)
        self.assertEqual(ran("print x\nlabel a\nprint x\ngoto a", [], 0, 100, 0), -5)
        self.assertEqual(ran("print x\nprint x", [], 0, 1, 0), -5)
        self.assertEqual(ran("print x\nprint x", [], 0, 2, 0), -1)


class Large(unittest.TestCase):
    """The edges, each within seconds."""

    def within_seconds(self, source, inputs=(), made=0, steps=1000000, most=65536):
        start = time.monotonic()
        got = ran(source, inputs, made, steps, most)
        self.assertLess(time.monotonic() - start, 10)
        return got

    def test_most_instructions(self):
        for made in (0, 1):
            self.assertEqual(self.within_seconds("print x\n" * 256, made=made), ([0] * 256, 256))
            self.assertEqual(self.within_seconds("print x\n" * 257, made=made), -357)
        self.assertEqual(self.within_seconds("x = 1\n" * 256), ([], 256))
        rows = [row for k in range(256) for row in (f"goto k{k}", f"label k{k}")]
        self.assertEqual(self.within_seconds(lines(*rows)), ([], 256))
        self.assertEqual(self.within_seconds(lines(*rows), made=1), ([], 0))

    def test_most_variables(self):
        names = [f"v{k}" for k in range(64)]
        source = lines(*[f"{name} = read" for name in names], *[f"print {name}" for name in names[::-1]])
        inputs = list(range(100, 170))
        for made in (0, 1):
            self.assertEqual(self.within_seconds(source, inputs, made), (inputs[:64][::-1], 128))
            self.assertEqual(self.within_seconds(source + "print v64", inputs, made), -229)

    def test_most_inputs(self):
        inputs = [(k * 0x9E3779B97F4A7C15) % 2 ** 64 - 2 ** 63 for k in range(16000)]
        source = lines("one = 1", "n = 16000", "label a", "x = read", "print x", "n = n - one", "if n goto a",
                       "x = read", "print x")
        for made in (0, 1):
            self.assertEqual(self.within_seconds(source, inputs, made), (inputs + [0], 2 + 4 * 16000 + 2))

    def test_most_steps(self):
        source = "one = 1\nx = 499999\nlabel a\nx = x - one\nif x goto a\n"
        for made in (0, 1):
            self.assertEqual(self.within_seconds(source, made=made), ([], 1000000))
            self.assertEqual(self.within_seconds(source, made=made, steps=999999), -5)
            self.assertEqual(self.within_seconds(source + "print x", made=made), -5)
        self.assertEqual(self.within_seconds(source + "end"), ([], 1000000))

    def test_most_steps_with_no_end(self):
        for made in (0, 1):
            self.assertEqual(self.within_seconds("label a\nprint x\ngoto a", made=made, most=0), -5)
            self.assertEqual(self.within_seconds(
                "x = read\nlabel a\ny = x * x\nx = y / z\nz = y % x\nx = x - y\nprint x\ngoto a", [3], made), -5)

    def test_most_numbers_printed(self):
        source = "one = 1\nn = read\nlabel a\nprint n\nn = n - one\nif n goto a"
        for made in (0, 1):
            printed = list(range(65536, 0, -1))
            self.assertEqual(self.within_seconds(source, [65536], made), (printed, 2 + 3 * 65536))
            self.assertEqual(self.within_seconds(source, [65536], made, most=65535), -1)
            self.assertEqual(self.within_seconds(source, [65537], made), -1)

    def test_longest_texts(self):
        for source in ("\n" * 65536, " " * 65536, "print x" + " " * 65529, "\t\r\n" * 21840 + "print x"):
            printed = [0] if "print" in source else []
            self.assertEqual(self.within_seconds(source), (printed, len(printed)))
        labels = "".join(f"label l{k:05}\n" for k in range(5000))
        self.assertEqual(self.within_seconds("goto l04999\n" + labels), ([], 1))


class Unchanged(list):
    """A list that is not to be changed."""

    def refuse(self, *given):
        raise AssertionError("what is handed in is changed")

    append = clear = extend = insert = pop = remove = reverse = sort = refuse
    __setitem__ = __delitem__ = __iadd__ = __imul__ = refuse


class Calls(unittest.TestCase):
    SOURCES = ("x = read\ny = x\nlabel a\nprint y\ny = read\nif y goto a", "wrong", "", "goto a", "print x\nprint x",
               "x = 5\ny = x * x\nprint y", "end\nend", "label a\ngoto a")

    def answers(self):
        return [bt_run(made, steps, most, as_list(source), [4, 5, 6]) for source in self.SOURCES
                for made in (0, 1, 2) for steps in (0, 2, 100) for most in (0, 1, 9)]

    def test_what_is_handed_in_stays(self):
        for source in self.SOURCES:
            for made in (0, 1, 2):
                text = Unchanged(as_list(source))
                inputs = Unchanged([4, 5, 6])
                bt_run(made, 100, 9, text, inputs)
                self.assertEqual((list(text), list(inputs)), (as_list(source), [4, 5, 6]))

    def test_same_answer_each_time(self):
        first = self.answers()
        for got in self.answers():
            got.append(7)
            got[0] = 5
        for turn in range(3):
            self.assertEqual(self.answers(), first)

    def test_lists_that_are_handed_in_again(self):
        text = as_list(self.SOURCES[0])
        inputs = [4, 5]
        for turn in range(3):
            self.assertEqual(bt_run(0, 100, 9, text, inputs), [2, 4, 5, 8])
            self.assertEqual(bt_run(1, 100, 9, text, inputs), [2, 4, 5, 8])

    def test_answers_are_lists_of_their_own(self):
        inputs = [4, 5]
        got = bt_run(0, 100, 9, as_list("x = read\nprint x"), inputs)
        got[1] = 77
        self.assertEqual(inputs, [4, 5])
        self.assertEqual(bt_run(0, 100, 9, as_list("x = read\nprint x"), inputs), [1, 4, 2])

    def test_calls_keep_nothing_for_one_another(self):
        text = as_list(self.SOURCES[0])
        before = (bt_known(1, text), bt_better(999, text), bt_run(0, 100, 9, text, [1]), bt_run(1, 100, 9, text, [1]))
        bt_run(0, 5, 9, as_list("y = read\nlabel a\nprint y\ngoto a"), [9, 8, 7])
        bt_run(1, 100, 0, as_list("y = 3\nprint y"), [])
        bt_run(0, 100, 0, as_list("wrong"), [5])
        after = (bt_known(1, text), bt_better(999, text), bt_run(0, 100, 9, text, [1]), bt_run(1, 100, 9, text, [1]))
        self.assertEqual(after, before)


if __name__ == "__main__":
    unittest.main()
