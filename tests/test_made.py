"""Programs made by a source of chance with a fixed start: made better as the document tells, and run the same."""

import random
import unittest

import retelling
from helping import answer, better, ran
from running import check_same, run

LABELS = ("a", "l0", "l1", "k")


def made_row(chance, names, operators, weights):
    x, y, z = [chance.choice(names) for place in range(3)]
    label = chance.choice(LABELS)
    number, copy, operator, read, user, jump = weights
    return chance.choices(
        [f"{x} = {chance.choice([0, 1, 2, -1])}", f"{x} = {y}", f"{x} = {y} {chance.choice(operators)} {z}",
         f"{x} = read", f"print {x}", f"if {x} goto {label}", f"goto {label}", "end"],
        [number, 2 * copy, 2 * operator, read, user, jump, jump / 4, 0.05])[0]


def made_program(chance, most):
    """Few names and operators, so that the same is often copied and reckoned again."""
    names = "abcdef"[:chance.randint(1, 6)]
    operators = chance.sample("+ - * / % & | ^ << >> < ==".split(), chance.randint(1, 3))
    weights = [chance.random() for kind in range(6)]
    rows = [made_row(chance, names, operators, weights) for place in range(chance.randint(0, most))]
    for label in LABELS:
        rows.insert(chance.randint(0, len(rows)), "label " + label)
    return "\n".join([f"{name} = read" for name in names if chance.random() < 0.6] + rows)


class MadePrograms(unittest.TestCase):
    def test_as_told_once_more(self):
        chance = random.Random(30)
        for turn in range(1500):
            source = made_program(chance, 25)
            self.assertEqual(better(source), retelling.made_better(source), source)

    def test_as_told_once_more_where_they_are_larger(self):
        chance = random.Random(31)
        for turn in range(25):
            source = made_program(chance, 200)
            self.assertEqual(better(source), retelling.made_better(source), source)

    def test_made_better_they_run_the_same_in_no_more_steps(self):
        chance = random.Random(32)
        for turn in range(1500):
            source = made_program(chance, 30)
            made = better(source)
            self.assertGreater(answer(0, made)[0], -1, made)
            for count in (0, 1, 6):
                numbers = [chance.choice([0, 0, 1, -1, 2, chance.randint(-2 ** 63, 2 ** 63 - 1)]) for k in range(count)]
                check_same(self, source, made, numbers, 150)

    def check_run(self, source, inputs, made, steps, most):
        """bt_run against a run of the text itself, or of the text made better."""
        printed, done, ended = run(better(source) if made else source, inputs, steps)
        expected = (printed, done) if ended else -5
        if ended and len(printed) > most:
            expected = -1
        self.assertEqual(ran(source, inputs, made, steps, most), expected, (source, inputs, made, steps, most))
        return expected

    def test_run_as_told_once_more(self):
        chance = random.Random(33)
        answers = []
        for turn in range(2000):
            source = made_program(chance, 30)
            inputs = [chance.choice([0, 1, -1, 2, chance.randint(-2 ** 63, 2 ** 63 - 1)])
                      for k in range(chance.choice([0, 1, 3, 9]))]
            for made in (0, 1):
                answers.append(self.check_run(source, inputs, made, chance.choice([0, 5, 20, 40, 150]),
                                              chance.choice([0, 1, 3, 65536])))
        # Each way to answer is come to often.
        self.assertGreater(answers.count(-5), 200)
        self.assertGreater(answers.count(-1), 200)
        self.assertGreater(len([got for got in answers if type(got) is tuple]), 200)

    def test_bt_run_finds_the_same_made_better_in_no_more_steps(self):
        chance = random.Random(34)
        for turn in range(2000):
            source = made_program(chance, 30)
            inputs = [chance.choice([0, 1, -1, 2, 7]) for k in range(chance.choice([0, 1, 3, 9]))]
            plain = ran(source, inputs, 0, 200)
            if plain != -5:
                printed, steps = ran(source, inputs, 1, 200)
                self.assertEqual(printed, plain[0], (source, inputs))
                self.assertLessEqual(steps, plain[1], (source, inputs))


if __name__ == "__main__":
    unittest.main()
