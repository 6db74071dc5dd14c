"""What bt_known answers: what's known along all ways that a program may go."""

import itertools
import random
import unittest

from helping import answer, known, lines, names_of
from running import parted
from test_reckoning import expected


class Places(unittest.TestCase):
    def test_before_each_instruction(self):
        source = "x = 5\ny = x\nz = x + y\nx = read\nprint z"
        self.assertEqual(known(0, source), {"x": 0, "y": 0, "z": 0})
        self.assertEqual(known(1, source), {"x": 5, "y": 0, "z": 0})
        self.assertEqual(known(2, source), {"x": 5, "y": 5, "z": 0})
        self.assertEqual(known(3, source), {"x": 5, "y": 5, "z": 10})
        self.assertEqual(known(4, source), {"x": None, "y": 5, "z": 10})
        self.assertEqual(known(5, source), {"x": None, "y": 5, "z": 10})

    def test_whole_answer(self):
        self.assertEqual(answer(2, "a = -3\nb = read\nc = 1"), [3, 1, -3, 0, 0, 1, 0] + [0] * 122)

    def test_places_there_are_none(self):
        for source, count in (("", 0), ("label a", 0), ("end", 1), ("x = 1\nprint x\nlabel a\n", 2)):
            for at in (-2147483648, -5, -1, count + 1, count + 2, 257, 2147483647):
                self.assertEqual(answer(at, source), [-4], (at, source))
            self.assertNotEqual(answer(count, source), [-4])

    def test_not_there_is_told_ahead_of_not_come_to(self):
        self.assertEqual(answer(3, "end\nx = 1"), [-4])
        self.assertEqual(answer(2, "end\nx = 1"), [-3])

    def test_behind_the_last(self):
        self.assertEqual(known(1, "x = 4"), {"x": 4})
        self.assertEqual(known(1, "x = 4\nlabel a\n"), {"x": 4})
        self.assertEqual(known(3, "x = 4\ngoto a\nx = 5\nlabel a"), {"x": 4})
        self.assertEqual(known(4, "r = read\nif r goto a\nx = 4\ny = 2\nlabel a"), {"r": None, "x": None, "y": None})
        self.assertEqual(answer(1, "label a\ngoto a"), [-3])

    def test_end_leads_nowhere(self):
        self.assertEqual(answer(1, "end"), [-3])
        self.assertEqual(answer(2, "end\nx = 1"), [-3])
        self.assertEqual(known(4, lines("r = read", "if r goto a", "x = 4", "end", "label a")), {"r": None, "x": 0})

    def test_program_without_instructions(self):
        self.assertEqual(answer(0, "label a\n\nlabel b"), [0] * 129)
        self.assertEqual(answer(1, "label a\n\nlabel b"), [-4])


class Ways(unittest.TestCase):
    def test_goto(self):
        source = "x = 1\ngoto a\nx = 2\nlabel a\nprint x"
        self.assertEqual(known(3, source), {"x": 1})
        self.assertEqual(answer(2, source), [-3])

    def test_goto_itself(self):
        self.assertEqual(known(0, "label a\ngoto a"), {})
        self.assertEqual(answer(1, "label a\ngoto a\nprint x"), [-3])

    def test_if_by_a_known_zero(self):
        source = "if x goto a\ny = 1\nend\nlabel a\ny = 2"
        self.assertEqual(known(1, source), {"x": 0, "y": 0})
        self.assertEqual(answer(3, source), [-3])
        self.assertEqual(answer(4, source), [-3])

    def test_if_by_another_known(self):
        for number in (1, -1, 2 ** 63 - 1, -2 ** 63):
            source = f"x = {number}\nif x goto a\ny = 1\nend\nlabel a\ny = 2"
            self.assertEqual(answer(2, source), [-3])
            self.assertEqual(answer(3, source), [-3])
            self.assertEqual(known(4, source), {"x": number, "y": 0})

    def test_if_by_an_unknown(self):
        source = "x = read\nif x goto a\ny = 1\nend\nlabel a\ny = 2"
        # No way tells more of x than was known before the if.
        self.assertEqual(known(2, source), {"x": None, "y": 0})
        self.assertEqual(known(4, source), {"x": None, "y": 0})

    def test_if_to_the_next(self):
        for x in ("0", "7", "read"):
            self.assertEqual(known(2, f"x = {x}\nif x goto a\nlabel a\nprint x")["x"], int(x) if x != "read" else None)

    def test_ways_that_come_together(self):
        source = lines("r = read", "if r goto a", "x = 1", "y = 2", "z = 3", "goto b",
                       "label a", "x = 1", "y = 5", "label b", "print x")
        self.assertEqual(known(8, source), {"r": None, "x": 1, "y": None, "z": None})

    def test_same_number_by_other_ways_of_reckoning(self):
        source = lines("r = read", "t = 2", "if r goto a", "x = 4", "goto b", "label a", "x = t + t", "label b")
        self.assertEqual(known(6, source), {"r": None, "t": 2, "x": 4})

    def test_three_that_bring(self):
        rows = ("r = read", "if r goto a", "r = read", "if r goto b", "x = 7", "goto c",
                "label a", "x = 7", "goto c", "label b", "x = {}", "label c")
        for number, result in ((7, 7), (8, None)):
            source = lines(*rows).replace("{}", str(number))
            self.assertEqual(known(9, source), {"r": None, "x": result})

    def test_way_that_is_not_gone_brings_nothing(self):
        source = lines("x = 1", "if x goto a", "y = 9", "goto b", "label a", "y = 4", "label b", "print y")
        self.assertEqual(known(5, source), {"x": 1, "y": 4})
        self.assertEqual(answer(2, source), [-3])


class Loops(unittest.TestCase):
    def test_counting(self):
        source = lines("n = 10", "one = 1", "label a", "n = n - one", "if n goto a", "print n")
        self.assertEqual(known(2, source), {"n": None, "one": 1})
        self.assertEqual(known(3, source), {"n": None, "one": 1})
        self.assertEqual(known(4, source), {"n": None, "one": 1})

    def test_back_to_the_first_instruction(self):
        source = lines("label a", "print x", "x = 5", "goto a")
        self.assertEqual(known(0, source), {"x": None})
        self.assertEqual(known(2, source), {"x": 5})
        self.assertEqual(known(0, "label a\nprint x\ny = read\nx = 0\nif y goto a"), {"x": 0, "y": None})

    def test_what_stays_the_same_in_a_loop(self):
        source = lines("x = 3", "label a", "r = read", "y = x", "x = y", "if r goto a")
        self.assertEqual(known(1, source), {"x": 3, "r": None, "y": None})
        self.assertEqual(known(5, source), {"x": 3, "r": None, "y": 3})

    def test_loop_that_keeps_itself_closed(self):
        # x stays 0, so the way by a is never come to, though it would change x.
        source = lines("label l", "if x goto a", "r = read", "if r goto l", "end", "label a", "x = 1", "goto l")
        self.assertEqual(known(0, source), {"x": 0, "r": None})
        self.assertEqual(known(3, source), {"x": 0, "r": None})
        self.assertEqual(answer(4, source), [-3])

    def test_way_that_opens_late(self):
        # x is known at first; once the loop comes round it isn't, and only then a is come to.
        source = lines("one = 1", "label l", "if x goto a", "x = x + one", "goto l", "label a", "y = x", "print y")
        self.assertEqual(known(1, source), {"one": 1, "x": None, "y": 0})
        self.assertEqual(known(4, source), {"one": 1, "x": None, "y": 0})
        self.assertEqual(known(5, source), {"one": 1, "x": None, "y": None})

    def test_numbers_that_are_lost_one_by_one(self):
        source = lines("label l", "a = b", "b = c", "c = d", "d = read", "goto l")
        self.assertEqual(known(0, source), {"a": None, "b": None, "c": None, "d": None})

    def test_loop_that_never_ends(self):
        self.assertEqual(answer(2, "one = 1\nlabel a\ngoto a\nprint one"), [-3])


class Givings(unittest.TestCase):
    def test_read_is_unknown(self):
        self.assertEqual(known(1, "x = read"), {"x": None})
        self.assertEqual(known(2, "x = read\nx = 3"), {"x": 3})
        self.assertEqual(known(2, "x = 3\nx = read"), {"x": None})

    def test_copies(self):
        self.assertEqual(known(2, "x = 3\ny = x"), {"x": 3, "y": 3})
        self.assertEqual(known(3, "x = 3\ny = x\nx = 4"), {"x": 4, "y": 3})
        self.assertEqual(known(2, "x = read\ny = x"), {"x": None, "y": None})
        self.assertEqual(known(1, "x = x"), {"x": 0})
        self.assertEqual(known(2, "x = read\nx = x"), {"x": None})
        self.assertEqual(known(1, "x = y"), {"x": 0, "y": 0})

    def test_print_changes_nothing(self):
        self.assertEqual(known(2, "x = 3\nprint x"), {"x": 3})
        self.assertEqual(known(2, "x = read\nprint x"), {"x": None})


def made_program(chance):
    """A program that a source of chance with a fixed start makes."""
    names = ["a", "b", "c", "d"][:chance.randint(1, 4)]
    count = chance.randint(0, 14)
    rows = [made_row(chance, names) for place in range(count)]
    for label in ("a", "l1", "l2"):
        rows.insert(chance.randint(0, len(rows)), "label " + label)
    return "\n".join(rows)


def made_row(chance, names):
    x, y, z = [chance.choice(names) for place in range(3)]
    label = chance.choice(["a", "l1", "l2"])
    operator = chance.choice("+ - * / % & | ^ << >> < ==".split())
    return chance.choice([
        f"{x} = {chance.choice([0, 0, 1, 1, 2, -1, 5])}", f"{x} = {y}", f"{x} = {y} {operator} {z}", f"{x} = read",
        f"print {x}", f"goto {label}", f"if {x} goto {label}", f"if {x} goto {label}", f"{x} = {y} {operator} {z}",
        chance.choice(["end", f"print {x}"]),
    ])


def brought_by(words, place, places, before):
    """The places that an instruction leads to, and what's known behind it."""
    if words[0] == "end":
        return [], before
    if words[0] == "goto":
        return [places[words[1]]], before
    if words[0] == "if":
        asked = before[words[1]]
        ways = ([place + 1] if asked in (None, 0) else []) + ([places[words[3]]] if asked != 0 else [])
        return ways, before
    if words[0] == "print":
        return [place + 1], before
    if words[2] == "read":
        number = None
    elif len(words) == 5:
        y, z = before[words[2]], before[words[4]]
        number = None if y is None or z is None else expected(y, words[3], z)
    else:
        number = before[words[2]] if words[2] in before else int(words[2])
    return [place + 1], {**before, words[0]: number}


def known_by_rounds(source):
    """As the document tells it: all that's brought is gathered anew, until nothing changes."""
    instructions, places = parted(source)
    start = {name: 0 for name in names_of(source)}
    state = {0: start}
    while True:
        brought = {0: [start]}
        for place in state:
            if place < len(instructions):
                ways, behind = brought_by(instructions[place], place, places, state[place])
                for way in ways:
                    brought.setdefault(way, []).append(behind)
        new = {place: {name: many[0][name] if len({one[name] for one in many}) == 1 else None for name in start}
               for place, many in brought.items()}
        if new == state:
            return state, len(instructions)
        state = new


def places_of_a_run(source, numbers):
    """The places that a run comes to, with what the variables are there."""
    instructions, places = parted(source)
    now = {name: 0 for name in names_of(source)}
    numbers = list(numbers)
    place = 0
    for step in range(60):
        yield place, now
        if place == len(instructions) or instructions[place][0] == "end":
            return
        words = instructions[place]
        ways, now = brought_by(words, place, places, now)
        place = ways[0]
        if words[-1] == "read" and words[1] == "=":
            now = {**now, words[0]: numbers.pop(0) if numbers else 0}


class MadePrograms(unittest.TestCase):
    def test_as_the_rounds_tell(self):
        chance = random.Random(20)
        for turn in range(3000):
            source = made_program(chance)
            state, count = known_by_rounds(source)
            for at in range(count + 1):
                if at in state:
                    self.assertEqual(known(at, source), state[at], (at, source))
                else:
                    self.assertEqual(answer(at, source), [-3], (at, source))

    def test_runs_find_what_is_known(self):
        chance = random.Random(21)
        for turn in range(300):
            source = made_program(chance)
            told = {}
            for numbers in itertools.product((0, 1, -3), repeat=2):
                for place, now in places_of_a_run(source, numbers):
                    if place not in told:
                        told[place] = known(place, source)
                    for name, number in told[place].items():
                        self.assertIn(number, (None, now[name]), (place, source))


class Large(unittest.TestCase):
    def test_largest_programs(self):
        # Each round through the loop loses one variable more, so it's gone through as often as can be.
        names = [f"v{k}" for k in range(64)]
        rows = ["label l"] + [f"{a} = {b}" for a, b in zip(names, names[1:])] + ["v63 = read"]
        rows += ["print v0"] * (255 - len(rows) + 1) + ["goto l"]
        source = "\n".join(rows)
        self.assertEqual(set(known(0, source).values()), {None})
        self.assertEqual(answer(256, source), [-3])

    def test_many_ways(self):
        rows = ["r = read"] + [f"if r goto l{k}" for k in range(127)]
        for k in range(127):
            rows += [f"label l{k}", f"x{k % 60} = {k}"]
        source = "\n".join(rows)
        got = known(255, source)
        # The last giving alone stands on every way.
        self.assertEqual({name: got[name] for name in got if got[name] is not None}, {"x6": 126})


if __name__ == "__main__":
    unittest.main()
