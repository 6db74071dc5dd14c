"""What bt_better answers: the text told, the edges, the refusals; the four points upon one another."""

import time
import unittest

from helping import HIGHEST, LOWEST, answer, as_list, better, lines
from running import check_same
from sameruns.desk import bt_better


class Case(unittest.TestCase):
    def becomes(self, source, expected):
        self.assertEqual(better(source), expected, source[:400])
        self.runs_the_same(source, expected)

    def stays(self, source):
        self.becomes(source, source)

    def runs_the_same(self, source, made):
        for numbers in ((), (1,), (0, 1), (2, -1, 0), (5, 5, 3, LOWEST, HIGHEST)):
            check_same(self, source, made, numbers, 700)


class Text(Case):
    def test_whole_answer(self):
        self.assertEqual(bt_better(100, as_list("x = read\nprint x")), [17] + as_list("x = read\nprint x\n"))

    def test_single_blanks(self):
        self.becomes(" \t x\r =\t\tread \n\n\t\n  print   x\r\n   end\t", "x = read\nprint x\nend\n")
        self.becomes("x = read\r\nif  x\tgoto\ta\r\nprint x\r\n label  a \r\ny = x   +\tx\r\nprint y\r\ngoto a",
                     "x = read\nif x goto l0\nprint x\nlabel l0\ny = x + x\nprint y\ngoto l0\n")

    def test_newline_behind_each_line(self):
        for tail in ("", "\n", "\n\n\n", " ", "\n \t"):
            self.becomes("x = read\nprint x" + tail, "x = read\nprint x\n")

    def test_numbers(self):
        for word, told in (
            ("007", "7"), ("-007", "-7"), ("-1", "-1"), ("0000000000000000010", "10"), ("100", "100"),
            ("9223372036854775807", "9223372036854775807"), ("-9223372036854775808", "-9223372036854775808"),
            ("-0000000000000000001", "-1"),
        ):
            self.becomes(f"x = {word}\nprint x", f"x = {told}\nprint x\n")
        for word in ("0", "-0", "0000000000000000000", "-000"):
            self.becomes(f"x = read\nprint x\nx = {word}\nprint x", "x = read\nprint x\nx = 0\nprint x\n")

    def test_all_operators(self):
        for operator in "+ - * / % & | ^ << >> < ==".split():
            self.stays(f"x = read\ny = read\nz = x {operator} y\nprint z\n")

    def test_labels_by_their_places(self):
        self.becomes(
            lines("label z", "r = read", "if r goto y", "label l9", "print r", "if r goto z", "label y", "s = read",
                  "if s goto l9", "goto z"),
            lines("label l0", "r = read", "if r goto l2", "label l1", "print r", "if r goto l0", "label l2", "s = read",
                  "if s goto l1", "goto l0"))

    def test_one_label_a_place(self):
        self.becomes("r = read\nlabel a\nlabel b\nlabel c\nprint r\nif r goto c\nif r goto a\nend",
                     "r = read\nlabel l0\nprint r\nif r goto l0\nif r goto l0\nend\n")

    def test_labels_only_where_something_leads(self):
        self.becomes("label a\nx = read\nlabel b\nprint x\nlabel c", "x = read\nprint x\n")
        self.becomes("label a\nend\ngoto a", "end\n")

    def test_label_at_the_end(self):
        self.becomes("x = read\nif x goto a\nprint x\nlabel a", "x = read\nif x goto l0\nprint x\nlabel l0\n")

    def test_more_than_ten_labels(self):
        rows = ["r = read"] + [row for k in range(30) for row in (f"if r goto a{k}", "print r")] + ["end"]
        labels = [row for k in range(30) for row in (f"label a{k}", "s = read", "print s")]
        expected = lines(*rows, *labels)
        for k in range(30):
            expected = expected.replace(f"a{k}\n", f"l{k}\n")
        self.becomes(lines(*rows, *labels), expected)

    def test_names_stay(self):
        self.stays("l0 = read\nlabel l0\nprint l0\nif l0 goto l0\nl1 = read\nprint l1\n")
        self.stays("a_0123456789_bcd = read\nprint a_0123456789_bcd\n")
        self.stays("ends = read\nreads = read\nif ends goto l0\nprint reads\nlabel l0\nprint ends\n")
        self.becomes("x = read\nlabel x\nprint x\ngoto x", "x = read\nlabel l0\nprint x\ngoto l0\n")

    def test_empty_programs(self):
        for source in ("", "\n\n", "label a", "label a\nlabel b\n", " \t\r\n"):
            self.assertEqual(bt_better(0, as_list(source)), [0], source)
        for source in ("x = 5", "x = y + z", "goto a\nlabel a", "if x goto a\nlabel a\ny = 7", "x = 1\nx = x + x"):
            self.becomes(source, "")
            self.assertEqual(bt_better(0, as_list(source)), [0], source)


class PointsUponOneAnother(Case):
    def test_known_then_needed(self):
        self.becomes("x = 6\ny = x * x\nprint y", "y = 36\nprint y\n")
        self.becomes("x = 1\nif x goto a\nprint y\nlabel a\nprint x", "x = 1\nprint x\n")
        self.becomes("x = y\ny = 0\nif y goto a\nprint x\nlabel a", "print x\n")

    def test_held_then_needed(self):
        self.becomes("x = read\ny = x\nprint y", "x = read\nprint x\n")
        self.becomes("x = read\ny = x\nz = y\nprint z", "x = read\nprint x\n")
        self.becomes("x = read\ny = read\nx = y\nprint x", "x = read\ny = read\nprint y\n")
        self.becomes("x = read\ny = x * x\nz = x * x\nprint y\nprint z", "x = read\ny = x * x\nprint y\nprint y\n")
        self.becomes("x = read\nt = x\ny = t * x\nt = x * x\nprint y\nprint t",
                     "x = read\ny = x * x\nprint y\nprint y\n")

    def test_copies_of_copies(self):
        rows = ["v0 = read"] + [f"v{k + 1} = v{k}" for k in range(63)] + ["print v63", "print v31"]
        self.becomes(lines(*rows), "v0 = read\nprint v0\nprint v0\n")

    def test_there_and_back(self):
        self.becomes("x = read\ny = x\nx = y\nprint x\nprint y", "x = read\nprint x\nprint x\n")

    def test_least_of_several_where_each_is_reckoned_first_by_a_way(self):
        head = ("{}r = read", "x = read", "if r goto l0", "y = x * x", "z = y", "goto l1", "label l0", "z = x * x",
                "y = z", "label l1")
        # Which of them is less is told by where they first stand.
        source = lines("r = read", "x = read", "if r goto l0", "y = x * x", "z = x * x", "goto l1", "label l0",
                       "z = x * x", "y = x * x", "label l1", "w = x * x", "print w", "print y", "print z")
        self.becomes(source, lines(*head, "print y", "print y", "print z").replace("{}", ""))
        first = "z = read\nprint z\n"
        self.becomes(first + source, lines(*head, "print z", "print y", "print z").replace("{}", first))

    def test_way_that_is_closed(self):
        self.becomes("x = read\ny = 0\nif y goto a\nlabel b\nprint x\nend\nlabel a\nx = 5\ngoto b",
                     "x = read\nprint x\nend\n")

    def test_loop(self):
        source = lines("n = read", "one = 1", "zero = 0", "label loop", "m = n", "done = m == zero", "if done goto out",
                       "print m", "t = n", "n = t - one", "goto loop", "label out", "print zero")
        self.becomes(source, lines("n = read", "one = 1", "label l0", "done = n == zero", "if done goto l1", "print n",
                                   "n = n - one", "goto l0", "label l1", "print zero"))

    def test_counter_that_nothing_uses_needs_itself(self):
        self.stays("one = 1\nlabel l0\nx = x + one\nr = read\nif r goto l0\n")

    def test_reads_and_prints_stay(self):
        self.stays("x = read\nx = read\nprint x\nprint x\nx = read\n")

    def test_gotos_then_ways(self):
        self.becomes(lines("r = read", "if r goto a", "goto b", "label a", "goto c", "label b", "print r", "label c",
                           "end"),
                     lines("r = read", "if r goto l0", "print r", "label l0", "end"))

    def test_if_by_either_way_to_the_same(self):
        self.becomes("x = read\nif x goto a\nlabel a\nprint x", "x = read\nprint x\n")
        self.becomes("x = read\nif x goto a\ngoto a\nlabel a\nprint x", "x = read\nprint x\n")
        self.becomes("x = read\nif x goto a\ngoto b\nlabel a\ngoto b\nlabel b\nprint x", "x = read\nprint x\n")
        self.becomes("x = read\nif x goto a\ny = 5\nlabel a\nprint x", "x = read\nprint x\n")
        self.becomes("x = read\ny = x\nif y goto a\nlabel a", "x = read\n")


class Times(Case):
    def test_each_time_one_more_that_is_not_needed(self):
        for count, left in ((1, 0), (2, 0), (63, 0), (64, 0), (65, 1), (70, 6), (255, 191)):
            self.becomes("r = read\n" + "r = r + r\n" * count, "r = read\n" + "r = r + r\n" * left)

    def test_each_time_one_more_if_that_leads_right_behind(self):
        for count, left in ((1, 0), (2, 0), (64, 0), (65, 1), (66, 2), (100, 36)):
            made = "r = read\n" + "if r goto l0\n" * left + ("label l0\n" if left else "") + "end\n"
            self.becomes("r = read\n" + "if r goto a\n" * count + "label a\nend\n", made)

    def test_ways_are_looked_at_last_each_time(self):
        # The 64th time the last of the sums is left out, and then the if that led over it.
        for count, left in ((64, ""), (65, "if r goto l0\nr = r + r\nlabel l0\n")):
            self.becomes("r = read\nif r goto a\n" + "r = r + r\n" * count + "label a\nend", f"r = read\n{left}end\n")

    def test_what_an_if_used_is_not_needed_the_time_behind(self):
        self.becomes("x = read\nk = 3\nc = x < k\nif c goto a\nlabel a\nprint x", "x = read\nprint x\n")

    def test_results_found_to_be_the_same_one_upon_the_other(self):
        self.becomes(lines("x = read", "y = read", "s = x + y", "t = x + y", "u = s * s", "v = t * t", "w = u - v",
                           "z = v - u", "print w", "print z"),
                     lines("x = read", "y = read", "s = x + y", "u = s * s", "w = u - u", "print w", "print w"))


class Edges(Case):
    def test_largest_program_that_stays(self):
        names = [f"v{k}" for k in range(64)]
        rows = [f"{name} = read" for name in names]
        rows += [f"{a} = {a} + {b}" for a, b in zip(names, names[1:])]
        rows += [f"print {name}" for name in names] * 2 + ["end"]
        self.assertEqual(len(rows), 256)
        self.stays(lines(*rows))

    def test_one_too_many(self):
        self.assertEqual(bt_better(65536, as_list("print x\n" * 256)), [256 * 8] + as_list("print x\n" * 256))
        self.assertEqual(bt_better(65536, as_list("print x\n" * 257)), [-357])
        names = [f"print v{k}" for k in range(65)]
        self.stays(lines(*names[:64]))
        self.assertEqual(bt_better(65536, as_list(lines(*names))), [-165])

    def test_no_end(self):
        self.stays("label l0\ngoto l0\n")
        self.stays("label l0\nx = read\nprint x\ngoto l0\n")
        self.becomes("label a\ngoto b\nlabel b\ngoto a", "label l0\ngoto l0\n")
        self.becomes("label a\nx = 5\ny = x\ngoto a", "label l0\ngoto l0\n")
        self.becomes("x = 1\nlabel a\nif x goto a\nprint x", "label l0\ngoto l0\n")
        self.becomes("print x\nlabel a\nif y goto b\ngoto a\nlabel b\nprint y", "print x\nlabel l0\ngoto l0\n")

    def test_if_to_itself(self):
        self.stays("x = read\nlabel l0\nif x goto l0\nprint x\n")

    def test_ends_stay(self):
        self.stays("end\n")
        self.stays("x = read\nif x goto l0\nend\nlabel l0\nend\n")
        self.becomes("print x\nend\nend\nprint x\nend", "print x\nend\n")

    def test_what_led_to_the_end(self):
        self.becomes("x = read\nif x goto a\nprint x\nlabel a\ny = 5\ny = x\nx = x",
                     "x = read\nif x goto l0\nprint x\nlabel l0\n")
        self.becomes("x = read\nif x goto a\nprint x\nend\nlabel a\ngoto b\nlabel b",
                     "x = read\nif x goto l0\nprint x\nend\nlabel l0\n")
        self.becomes("print x\ngoto a\nlabel a", "print x\n")

    def test_ways_that_nothing_leads_to(self):
        self.becomes("end\nlabel a\nx = read\nif x goto a\nprint x\ngoto a", "end\n")
        self.becomes("goto a\nlabel b\nprint x\ngoto b\nlabel a\nprint y", "print y\n")


class Refusals(unittest.TestCase):
    def test_most_out_of_range(self):
        for most in (-1, -2, -2147483648, 65537, 65538, 2147483647):
            for source in ("", "x = read\nprint x", "wrong", "goto a"):
                self.assertEqual(bt_better(most, as_list(source)), [-2], (most, source))

    def test_ends_of_the_range(self):
        self.assertEqual(bt_better(0, []), [0])
        self.assertEqual(bt_better(65536, []), [0])
        self.assertEqual(bt_better(65536, as_list("end")), [4] + as_list("end\n"))

    def test_wrong_lines(self):
        for most in (0, 5, 65536):
            for source, line in (
                ("wrong", 1), ("x = 5\n\nx = y +", 3), ("label a\nlabel a", 2), ("goto a", 1), ("goto a\nwrong", 2),
                ("end\n" * 257, 257), ("x = 9223372036854775808", 1), ("label a\nif x goto b\ngoto a", 2),
                ("".join(f"v{k} = 1\n" for k in range(65)), 65), ("\n" * 65535 + "x", 65536),
            ):
                self.assertEqual(bt_better(most, as_list(source)), [-100 - line], (most, source[:60]))

    def test_same_lines_as_bt_known(self):
        for source in (b"\xff", b"x = 1\n\x00", b"print 5", b"if x goto", b"x == y", b"read = x", b"label label"):
            self.assertEqual(bt_better(9, list(source)), answer(0, source))

    def test_longer_than_most(self):
        for source in ("x = read\nprint x", "end", "x = 5\nprint x\nx = 6", "x = read\nif x goto a\nprint x\nlabel a"):
            size = len(better(source))
            for most in (0, 1, size - 1):
                self.assertEqual(bt_better(most, as_list(source)), [-1], (most, source))
            for most in (size, size + 1):
                self.assertEqual(bt_better(most, as_list(source)), [size] + as_list(better(source)), (most, source))

    def test_only_what_is_to_be_told_counts(self):
        self.assertEqual(bt_better(4, as_list("x = 5\n" * 200 + "end")), [4] + as_list("end\n"))
        self.assertEqual(bt_better(3, as_list("x = 5\n" * 200 + "end")), [-1])
        self.assertEqual(bt_better(0, as_list("\n" * 65536)), [0])


class Calls(unittest.TestCase):
    SOURCES = ("x = read\ny = x\nlabel a\nprint y\nif y goto a", "wrong", "", "goto a", "x = 5\ny = x * x\nprint y",
               "end\nend")

    def test_what_is_handed_in_stays(self):
        for source in self.SOURCES:
            for most in (-1, 0, 65536):
                text = as_list(source)
                bt_better(most, text)
                self.assertEqual(text, as_list(source))

    def test_same_answer_each_time(self):
        first = [bt_better(most, as_list(source)) for source in self.SOURCES for most in (-1, 0, 9, 65536)]
        for got in first:
            kept = list(got)
            got.append(7)
            got[0] = 5
            got[:] = kept
        for turn in range(3):
            again = [bt_better(most, as_list(source)) for source in self.SOURCES for most in (-1, 0, 9, 65536)]
            self.assertEqual(first, again)

    def test_calls_keep_nothing_for_one_another(self):
        one = bt_better(99, as_list(self.SOURCES[0]))
        known = answer(1, self.SOURCES[0])
        bt_better(99, as_list("y = 1\nx = y\nprint x"))
        self.assertEqual(bt_better(99, as_list(self.SOURCES[0])), one)
        self.assertEqual(answer(1, self.SOURCES[0]), known)

    def test_plain_whole_numbers_in_a_list(self):
        for source in self.SOURCES:
            for most in (-1, 0, 65536):
                got = bt_better(most, as_list(source))
                self.assertIs(type(got), list)
                self.assertTrue(all(type(number) is int for number in got))
                self.assertTrue(all(0 <= number <= 255 for number in got[1:]))
                self.assertTrue(len(got) == 1 if got[0] < 0 else len(got) == got[0] + 1)


class Large(Case):
    """The largest programs, each of which needs all 64 times, within seconds."""

    def within_seconds(self, source):
        start = time.monotonic()
        made = better(source)
        self.assertLess(time.monotonic() - start, 10)
        self.runs_the_same(source, made)
        return made

    def test_what_is_known_is_lost_slowly(self):
        names = [f"v{k}" for k in range(64)]
        loop = ["label l0"] + [f"{a} = {b}" for a, b in zip(names, names[1:])]
        loop += ["v63 = read", "print v0", "if v63 goto l0"]
        tail = [f"v{(k + 1) % 64} = v{k % 64} + v{k % 64}" for k in range(256 + 1 - len(loop))]
        made = self.within_seconds(lines(*loop, *tail))
        self.assertEqual(made, lines(*loop, *tail[:-64]))

    def test_what_holds_is_lost_slowly(self):
        rows = ["w = read"] + [f"v{k} = w * w" for k in range(60)] + ["label l"]
        rows += [f"v{k} = v{k + 1}" for k in range(59)] + ["v59 = read", "if v59 goto l"]
        rows += [f"print v{k}" for k in range(60)]
        self.within_seconds(lines(*rows, *["w = w + w"] * (257 - len(rows))))

    def test_many_ways(self):
        rows = ["r = read"] + [row for k in range(255) for row in (f"if r goto k{(k * 7 + 3) % 255}", f"label k{k}")]
        self.within_seconds(lines(*rows))
        rows = ["r = read"] + ["if r goto e"] * 255 + ["label e"]
        self.assertEqual(self.within_seconds(lines(*rows)).count("\n"), 255 - 64 + 2)

    def test_gotos_that_go_round(self):
        rows = [row for k in range(256) for row in (f"label k{k}", f"goto k{(k * 7 + 3) % 256}")]
        self.within_seconds(lines(*rows))


if __name__ == "__main__":
    unittest.main()
