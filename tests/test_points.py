"""Each of the four points of "Made better" by itself, done once."""

import unittest

from helping import as_list, lines
from sameruns.bettering import better_by_held, better_by_known, better_by_needed
from sameruns.jumping import better_by_ways
from sameruns.program import Program
from sameruns.reading import read_program
from sameruns.telling import told


class Case(unittest.TestCase):
    def point(self, program):
        raise NotImplementedError

    def made(self, source):
        program = read_program(as_list(source))
        return bytes(told(Program(self.point(program), program.names))).decode("ascii")

    def becomes(self, source, expected):
        self.assertEqual(self.made(source), expected, source)

    def stays(self, source):
        self.becomes(source, source)


class ByWhatIsKnown(Case):
    def point(self, program):
        return better_by_known(program)

    def test_what_is_not_come_to(self):
        self.becomes("goto a\nx = 1\nlabel a\nprint x", "goto l0\nlabel l0\nprint x\n")
        self.becomes("end\nprint x\nlabel a\ngoto a", "end\n")
        self.becomes("label a\ngoto a\nx = read\nend", "label l0\ngoto l0\n")
        self.becomes("if x goto a\nend\nlabel a\nprint x\ngoto a", "end\n")

    def test_number_that_is_known_already(self):
        self.becomes("x = 0\nprint x", "print x\n")
        self.becomes("x = -0\nprint x", "print x\n")
        self.becomes("x = 5\nx = 5\nprint x\nx = 05", "x = 5\nprint x\n")
        self.stays("x = 5\nx = 6\nx = 5\n")
        self.stays("x = read\nx = 0\n")

    def test_number_that_is_known_along_all_ways_alone(self):
        for number in (0, 4):
            self.stays(f"r = read\nif r goto l0\nx = 4\nlabel l0\nx = {number}\nprint x\n")
        self.becomes("r = read\nx = 4\nif r goto a\ny = 1\nlabel a\nx = 4",
                     "r = read\nx = 4\nif r goto l0\ny = 1\nlabel l0\n")

    def test_copy_of_the_number_that_is_known_already(self):
        self.becomes("x = 5\ny = 5\nx = y", "x = 5\ny = 5\n")
        self.becomes("x = y\nprint x", "print x\n")
        self.becomes("x = 5\nx = x", "x = 5\n")
        self.stays("x = read\nx = x\n")

    def test_result_that_is_known_already(self):
        self.becomes("x = 4\ny = 2\nx = y + y", "x = 4\ny = 2\n")
        self.becomes("x = 1\nx = x * x\nx = x / y", "x = 1\nx = 0\n")
        self.stays("x = read\nx = x * y\n")

    def test_read_stays(self):
        self.stays("x = read\nx = read\n")

    def test_if_by_a_known_zero(self):
        self.becomes("if x goto a\nprint x\nlabel a\nprint y", "print x\nprint y\n")

    def test_if_by_another_known(self):
        for number in ("1", "-1", "-9223372036854775808"):
            self.becomes(f"x = {number}\nif x goto a\nprint x\nlabel a\nend", f"x = {number}\ngoto l0\nlabel l0\nend\n")

    def test_if_by_an_unknown(self):
        self.stays("x = read\nif x goto l0\nprint x\nlabel l0\nif x goto l1\nlabel l1\nend\n")

    def test_copy_of_a_known(self):
        self.becomes("x = 7\ny = x\nprint y", "x = 7\ny = 7\nprint y\n")
        self.becomes("x = read\nx = y", "x = read\nx = 0\n")
        self.stays("x = read\ny = x\nprint y\n")

    def test_known_result(self):
        self.becomes("x = 7\ny = x * x\nprint y", "x = 7\ny = 49\nprint y\n")
        self.becomes("x = 9223372036854775807\ny = x + x", "x = 9223372036854775807\ny = -2\n")
        self.becomes("x = read\nx = y == z", "x = read\nx = 1\n")
        self.becomes("x = 7\nx = x - y\nx = x - x", "x = 7\nx = 0\n")
        # One known of the two doesn't tell the result, whatever it is.
        self.stays("x = read\ny = x * z\ny = z & x\ny = x - x\n")

    def test_print_stays_as_it_is(self):
        self.stays("x = 5\ny = 5\nprint y\n")

    def test_where_what_led_to_them_leads(self):
        self.becomes("y = read\nlabel a\nx = 0\nif x goto a\nprint y\nif y goto a",
                     "y = read\nlabel l0\nprint y\nif y goto l0\n")
        self.becomes("y = read\nif y goto a\nprint y\nlabel a\nx = 0", "y = read\nif y goto l0\nprint y\nlabel l0\n")
        self.becomes("x = 1\nif x goto a\nend\nlabel a\nx = 1\nx = 1", "x = 1\ngoto l0\nlabel l0\n")

    def test_loop_that_keeps_itself_closed(self):
        self.becomes(lines("label l", "if x goto a", "r = read", "if r goto l", "end", "label a", "x = 1", "goto l"),
                     lines("label l0", "r = read", "if r goto l0", "end"))


class ByWhatHolds(Case):
    def point(self, program):
        return better_by_held(program)

    def test_root_of_what_is_used(self):
        head = "x = read\ny = x\nw = read\n"
        for row, expected in (
            ("z = y", "z = x"), ("z = y + w", "z = x + w"), ("z = w - y", "z = w - x"), ("z = y * y", "z = x * x"),
            ("print y", "print x"), ("y = y + w", "y = x + w"),
            ("if y goto l0\nend\nlabel l0", "if x goto l0\nend\nlabel l0"),
        ):
            self.becomes(head + row, head + expected + "\n")

    def test_root_with_a_higher_number(self):
        self.becomes("x = read\ny = read\nx = y\nprint x\nprint y", "x = read\ny = read\nx = y\nprint y\nprint y\n")

    def test_one_that_is_no_copy_is_its_own_root(self):
        self.stays("x = read\ny = 5\nz = x + y\nprint x\nprint y\nprint z\nif z goto l0\nlabel l0\n")

    def test_what_ends_a_copy(self):
        for row in ("x = read", "x = 5", "x = w", "x = w + w", "x = x + w", "y = read", "y = 5", "y = w + w"):
            self.stays(f"x = read\nw = read\ny = x\n{row}\nprint y\n")
        self.becomes("x = read\nw = read\ny = x\ny = w\nprint y", "x = read\nw = read\ny = x\ny = w\nprint w\n")

    def test_what_does_not_end_a_copy(self):
        for row in ("w = read", "w = 5", "w = z + z", "print w", "if w goto l0\nlabel l0", "y = y", "x = x"):
            made = self.made(f"x = read\ny = x\n{row}\nprint y\n")
            self.assertTrue(made.endswith("print x\n"), row)

    def test_what_holds_along_all_ways(self):
        def source(row, last):
            return lines("x = read", "w = read", "if w goto l0", "y = x", "goto l1", "label l0", row, "label l1", last)
        self.becomes(source("y = x", "print y"), source("y = x", "print x"))
        for row in ("y = w + w", "print x", "y = 5", "y = read"):
            self.stays(source(row, "print y"))

    def test_either_way_of_an_if_counts(self):
        # x is 0 here, which isn't looked at by this point.
        self.stays("if x goto l0\ny = x\nlabel l0\nprint y\n")
        self.becomes("y = x\nif y goto l0\nprint y\nlabel l0\nprint y",
                     "y = x\nif x goto l0\nprint x\nlabel l0\nprint x\n")

    def test_loops(self):
        def source(user, row):
            return lines("x = read", "y = x", "label l0", user, row, "if x goto l0")
        self.becomes(source("print y", "z = x"), source("print x", "z = x"))
        self.stays(source("print y", "x = read"))
        self.stays(source("print y", "y = 7"))

    def test_nothing_holds_before_instruction_0(self):
        self.becomes("label a\nprint x\ny = read\nx = y\nif x goto a",
                     "label l0\nprint x\ny = read\nx = y\nif y goto l0\n")
        self.stays("label l0\nx = y\nz = read\nif z goto l0\n")

    def test_copy_to_itself(self):
        self.becomes("x = read\nx = x\nprint x", "x = read\nprint x\n")
        self.becomes("x = read\ny = x\nx = y\nprint z", "x = read\ny = x\nprint z\n")

    def test_copy_of_what_holds_already(self):
        self.becomes("x = read\ny = x\ny = x\nprint x", "x = read\ny = x\nprint x\n")
        self.becomes("x = read\ny = x\nz = x\ny = z\nprint x", "x = read\ny = x\nz = x\nprint x\n")
        self.stays("x = read\ny = x\nx = read\ny = x\n")

    def test_result_that_holds_already(self):
        self.becomes("x = read\ny = x + x\nprint y\ny = x + x", "x = read\ny = x + x\nprint y\n")
        self.becomes("x = read\ny = read\nz = x < y\nw = y\nz = x < w", "x = read\ny = read\nz = x < y\nw = y\n")
        for row in ("x = read", "y = read", "z = read", "y = y + x"):
            self.stays(f"x = read\ny = read\nz = x < y\n{row}\nz = x < y\n")
        self.stays(lines("x = read", "y = read", "z = x < y", "z = y < x", "z = x == y", "z = x + y", "z = x + x",
                         "z = y + y", "z = y + x"))

    def test_another_that_is_the_same(self):
        self.becomes("x = read\ny = x + x\nz = x + x", "x = read\ny = x + x\nz = y\n")
        self.becomes("x = read\nw = read\ny = x - w\nv = w\nz = x - v", "x = read\nw = read\ny = x - w\nv = w\nz = y\n")
        for row in ("z = w - x", "z = x + w", "z = x - x", "z = w - w", "z = x / w"):
            self.stays(f"x = read\nw = read\ny = x - w\n{row}\n")

    def test_another_is_ended(self):
        for row in ("x = read", "w = 4", "y = x * w", "y = read"):
            self.stays(f"x = read\nw = read\ny = x - w\n{row}\nz = x - w\n")

    def test_least_of_several(self):
        head = "x = read\ny = read\nz = read\n"
        for one, other in (("y", "z"), ("z", "y")):
            self.becomes(f"{head}{one} = x + x\n{other} = x + x\nw = x + x\n",
                         f"{head}{one} = x + x\n{other} = {one}\nw = y\n")

    def test_least_is_by_number_not_by_name(self):
        head = "x = read\nz = read\ny = read\ny = x + x\n"
        self.becomes(head + "z = x + x\na = x + x\n", head + "z = y\na = z\n")

    def test_several_along_all_ways(self):
        def source(row, last):
            return lines("r = read", "x = read", "if r goto l0", "y = x * x", "goto l1", "label l0", row, "label l1",
                         last)
        self.becomes(source("y = x * x", "z = x * x"), source("y = x * x", "z = y"))
        self.stays(source("w = x * x", "z = x * x"))

    def test_result_that_is_one_of_its_own_two(self):
        for result in ("x + y", "y + x", "x + x"):
            self.stays(f"x = read\ny = read\nx = {result}\nz = {result}\n")
            self.stays(f"x = read\ny = read\nx = {result}\nx = {result}\n")
        self.becomes("x = read\ny = read\nz = x + y\nx = x + y\nw = x + y",
                     "x = read\ny = read\nz = x + y\nx = z\nw = x + y\n")

    def test_where_what_led_to_them_leads(self):
        self.becomes("x = read\ny = x\nlabel a\nx = x\ny = x\nprint x\nif x goto a",
                     "x = read\ny = x\nlabel l0\nprint x\nif x goto l0\n")
        self.becomes("x = read\nif x goto a\nprint x\nlabel a\nx = x", "x = read\nif x goto l0\nprint x\nlabel l0\n")


class ByWhatIsNeeded(Case):
    def point(self, program):
        return better_by_needed(program)

    def test_what_is_not_needed(self):
        for row in ("x = 5", "x = y", "x = y + z", "x = x + x", "x = x"):
            self.becomes(f"{row}\nprint y", "print y\n")
            self.becomes(row, "")
            self.becomes(f"{row}\nx = read\nprint x", "x = read\nprint x\n")
            self.becomes(f"{row}\nend\nprint x", "end\nprint x\n")

    def test_what_is_needed(self):
        for row in ("x = 5", "x = y", "x = y + z", "x = x + x", "x = x"):
            for user in ("print x", "if x goto l0\nprint z\nlabel l0", "z = x\nprint z", "z = y + x\nprint z",
                         "x = x * y\nprint x"):
                self.stays(f"{row}\n{user}\n")

    def test_reads_stay(self):
        self.stays("x = read\nx = read\nend\n")

    def test_others_stay(self):
        self.stays("label l0\nprint x\ngoto l0\nif x goto l1\nend\nlabel l1\n")

    def test_needed_by_one_way_of_an_if(self):
        self.stays("x = 5\ny = read\nif y goto l0\nend\nlabel l0\nprint x\n")
        self.stays("x = 5\ny = read\nif y goto l0\nprint x\nlabel l0\n")
        self.becomes("x = 5\ny = read\nif y goto a\nx = 1\nlabel a\nx = 2\nprint x",
                     "y = read\nif y goto l0\nlabel l0\nx = 2\nprint x\n")

    def test_needed_round_a_loop(self):
        self.stays("x = 5\nlabel l0\nprint x\nx = 6\ny = read\nif y goto l0\n")
        # It needs itself, round and round.
        self.stays("label l0\nx = x + y\nr = read\nif r goto l0\n")
        self.becomes("label a\nx = r\nr = read\nif r goto a", "label l0\nr = read\nif r goto l0\n")

    def test_needed_by_what_is_not_needed_itself(self):
        self.becomes("x = 5\ny = x\nz = y + y\n", "x = 5\ny = x\n")

    def test_what_is_given_and_used_by_one(self):
        self.stays("x = 5\nx = x + x\nprint x\n")
        self.becomes("x = 5\nx = y + y\nprint x", "x = y + y\nprint x\n")

    def test_where_what_led_to_them_leads(self):
        self.becomes("label a\nx = 5\nx = 6\nprint y\ngoto a", "label l0\nprint y\ngoto l0\n")
        self.becomes("if y goto a\nprint y\nlabel a\nx = 5\nx = 6\n", "if y goto l0\nprint y\nlabel l0\n")
        self.becomes("label a\nx = 5\ngoto a", "label l0\ngoto l0\n")


class ByWhereItLeads(Case):
    def point(self, program):
        return better_by_ways(program)

    def test_goto_to_a_goto(self):
        self.becomes("goto a\nlabel b\nprint x\nend\nlabel a\ngoto b", "print x\nend\n")
        self.becomes("r = read\nif r goto a\nprint r\ngoto a\nlabel b\nprint x\nend\nlabel a\ngoto b",
                     "r = read\nif r goto l0\nprint r\nlabel l0\nprint x\nend\n")

    def test_many_gotos(self):
        rows = ["r = read", "if r goto a0", "print r"]
        rows += [row for k in reversed(range(200)) for row in (f"label a{k}", f"goto a{k + 1}")]
        rows += ["label a200", "end"]
        self.becomes(lines(*rows), lines("r = read", "if r goto l0", "print r", "label l0", "end"))

    def test_goto_to_the_end_by_a_goto(self):
        self.becomes("r = read\nif r goto a\nprint r\nend\nlabel a\ngoto b\nlabel b",
                     "r = read\nif r goto l0\nprint r\nend\nlabel l0\n")

    def test_gotos_that_go_round(self):
        self.stays("label l0\ngoto l0\n")
        self.stays("r = read\nif r goto l0\nprint r\nlabel l0\ngoto l0\n")
        # Two that lead to one another: each stays as it was, then the first leads right behind itself.
        self.becomes("label a\ngoto b\nlabel b\ngoto a", "label l0\ngoto l0\n")
        self.stays(lines("r = read", "if r goto l0", "if r goto l1", "print r", "label l0", "goto l2", "label l1",
                         "goto l0", "label l2", "goto l1"))

    def test_what_leads_into_a_round_stays_as_it_was(self):
        # The goto at l1 leads into the round of the two others, but isn't of it.
        self.stays(lines("r = read", "if r goto l1", "if r goto l0", "if r goto l2", "print r", "label l0", "goto l2",
                         "label l1", "goto l0", "label l2", "goto l0"))
        source = lines("r = read", "if r goto l1", "goto l0", "print r", "label l0", "goto l1", "label l1", "goto l0")
        self.becomes(source, lines("r = read", "if r goto l0", "label l0", "goto l0"))

    def test_if_is_no_goto(self):
        self.stays("r = read\nif r goto l0\nend\nlabel l0\nif r goto l1\nprint r\nlabel l1\nend\n")
        self.stays("label l0\nif r goto l0\n")

    def test_end_is_no_goto(self):
        self.stays("r = read\nif r goto l0\nprint r\nlabel l0\nend\n")
        self.stays("r = read\nif r goto l0\nprint r\ngoto l1\nlabel l0\nprint x\nlabel l1\nend\n")

    def test_what_no_way_leads_to(self):
        self.becomes("end\nprint x\nx = read", "end\n")
        self.becomes("label a\nprint x\ngoto a\nprint y\nif x goto a\nend", "label l0\nprint x\ngoto l0\n")
        self.becomes("end\nlabel a\nprint x\ngoto a", "end\n")

    def test_either_way_of_an_if_leads(self):
        self.stays("if x goto l0\nend\nlabel l0\nprint x\n")

    def test_goto_right_behind(self):
        self.becomes("goto a\nlabel a\nprint x", "print x\n")
        self.becomes("print x\ngoto a\nlabel a", "print x\n")
        self.becomes("goto a\nprint x\nlabel a\nprint y", "print y\n")

    def test_if_right_behind(self):
        self.becomes("x = read\nif x goto a\nlabel a\nprint x", "x = read\nprint x\n")
        self.becomes("x = read\nif x goto a\nlabel a", "x = read\n")
        # Only the last of several leads right behind itself when this is looked at.
        self.becomes("x = read\nif x goto a\nif x goto a\nlabel a\nend", "x = read\nif x goto l0\nlabel l0\nend\n")

    def test_where_what_led_to_them_leads(self):
        self.becomes("label a\nif x goto b\nlabel b\nprint x\ngoto a", "label l0\nprint x\ngoto l0\n")
        self.becomes("r = read\nif r goto a\nprint r\nlabel a\nif r goto b\nlabel b",
                     "r = read\nif r goto l0\nprint r\nlabel l0\n")

    def test_givings_stay(self):
        self.stays("x = 0\nx = x\ny = x + x\ny = x + x\nprint y\n")


if __name__ == "__main__":
    unittest.main()
