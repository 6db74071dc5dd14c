"""Programs made by a source of chance with a fixed start: made better as the document tells, and run the same."""

import random
import unittest

import retelling
from helping import answer, better
from running import check_same

LABELS = ("a", "l0", "l1", "k")


def made_row(chance, names, operators, weights):
    x, y, z = [chance.choice(names) for place in range(3)]
    label = chance.choice(LABELS)
    number, copy, operator, read, user, jump = weights
    return chance.choices(
        [f"{x} = {chance.choice([0, 1, 2, -1])}", f"{x} = {y}", f"{x} = {y} {chance.choice(operators)} {z}",
         f"{x} = read", f"print {x}", f"if {x} goto {label}", f"goto {label}", "end"],
        [number, 2 * copy, 2 * operator, read, user, jump, jump / 4, 0.05])[0]


def made_program(chance, most):
    """Few names and operators, so that the same is often copied and reckoned again."""
    names = "abcdef"[:chance.randint(1, 6)]
    operators = chance.sample("+ - * / % & | ^ << >> < ==".split(), chance.randint(1, 3))
    weights = [chance.random() for kind in range(6)]
    rows = [made_row(chance, names, operators, weights) for place in range(chance.randint(0, most))]
    for label in LABELS:
        rows.insert(chance.randint(0, len(rows)), "label " + label)
    return "\n".join([f"{name} = read" for name in names if chance.random() < 0.6] + rows)


class MadePrograms(unittest.TestCase):
    def test_as_told_once_more(self):
        chance = random.Random(30)
        for turn in range(1500):
            source = made_program(chance, 25)
            self.assertEqual(better(source), retelling.made_better(source), source)

    def test_as_told_once_more_where_they_are_larger(self):
        chance = random.Random(31)
        for turn in range(25):
            source = made_program(chance, 200)
            self.assertEqual(better(source), retelling.made_better(source), source)

    def test_made_better_they_run_the_same_in_no_more_steps(self):
        chance = random.Random(32)
        for turn in range(1500):
            source = made_program(chance, 30)
            made = better(source)
            self.assertGreater(answer(0, made)[0], -1, made)
            for count in (0, 1, 6):
                numbers = [chance.choice([0, 0, 1, -1, 2, chance.randint(-2 ** 63, 2 ** 63 - 1)]) for k in range(count)]
                check_same(self, source, made, numbers, 150)


if __name__ == "__main__":
    unittest.main()
