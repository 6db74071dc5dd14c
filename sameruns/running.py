"""A program run on the numbers that it's handed."""

from sameruns.program import Instruction
from sameruns.reckoning import reckoned


class Run:
    """What a run that came to its end printed, and how many steps it did."""

    def __init__(self, printed, steps):
        self.printed = printed
        self.steps = steps


def number_given(instruction, variables, waiting):
    """The number that an instruction gives its variable; a read takes it from the end of those that wait."""
    if instruction.kind == "operator":
        return reckoned(instruction.operator, variables[instruction.used[0]], variables[instruction.used[1]])
    if instruction.kind == "number":
        return instruction.number
    if instruction.kind == "copy":
        return variables[instruction.used[0]]
    return waiting.pop() if len(waiting) > 0 else 0


def run(program, inputs, most_steps):
    """The run of the program; None where it isn't at its end after so many steps."""
    # Going on behind the last is the end too.
    instructions = program.instructions + [Instruction("end", ())]
    variables = [0] * len(program.names)
    waiting = list(inputs)
    waiting.reverse()
    printed = []
    place = 0
    steps = 0
    while instructions[place].kind != "end":
        if steps == most_steps:
            return None
        instruction = instructions[place]
        place = place + 1
        steps = steps + 1
        if instruction.given is not None:
            variables[instruction.given] = number_given(instruction, variables, waiting)
        elif instruction.kind == "print":
            printed.append(variables[instruction.used[0]])
        elif instruction.kind == "goto" or variables[instruction.used[0]] != 0:
            place = instruction.place
    return Run(printed, steps)
