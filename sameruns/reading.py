"""A program read from its text."""

from sameruns.program import Instruction, Program
from sameruns.reckoning import is_operator
from sameruns.words import is_name, lines_of, number_of, spelled

MOST_INSTRUCTIONS = 256
MOST_VARIABLES = 64


class WrongLine(Exception):
    """A line, counted from 1, that no program may have."""

    def __init__(self, line):
        self.line = line


class Reading:
    """What is read so far, line by line."""

    def __init__(self):
        self.line = 0
        self.instructions = []
        self.variables = {}
        self.labels = {}
        self.jumps = []

    def take_line(self, words):
        self.line = self.line + 1
        if len(words) == 0:
            return
        if len(words) == 2 and words[0] == spelled("label"):
            self.take_label(words[1])
        else:
            self.take_instruction(words)

    def take_label(self, word):
        if not is_name(word) or word in self.labels:
            raise WrongLine(self.line)
        self.labels[word] = len(self.instructions)

    def take_instruction(self, words):
        if len(self.instructions) == MOST_INSTRUCTIONS:
            raise WrongLine(self.line)
        self.instructions.append(self.instruction_of(words))

    def instruction_of(self, words):
        size = len(words)
        if size >= 3 and words[1] == spelled("="):
            return self.giving_of(words)
        if size == 2 and words[0] == spelled("print"):
            return Instruction("print", (self.variable_of(words[1]),))
        if size == 2 and words[0] == spelled("goto"):
            return self.jump_to(words[1], Instruction("goto", ()))
        if size == 4 and words[0] == spelled("if") and words[2] == spelled("goto"):
            return self.jump_to(words[3], Instruction("if", (self.variable_of(words[1]),)))
        if size == 1 and words[0] == spelled("end"):
            return Instruction("end", ())
        raise WrongLine(self.line)

    def giving_of(self, words):
        # Variables are numbered as they stand in the line: the given one is first.
        given = self.variable_of(words[0])
        if len(words) == 5 and is_operator(words[3]):
            used = (self.variable_of(words[2]), self.variable_of(words[4]))
            return Instruction("operator", used, given=given, operator=words[3])
        if len(words) != 3:
            raise WrongLine(self.line)
        if words[2] == spelled("read"):
            return Instruction("read", (), given=given)
        number = number_of(words[2])
        if number is not None:
            return Instruction("number", (), given=given, number=number)
        return Instruction("copy", (self.variable_of(words[2]),), given=given)

    def variable_of(self, word):
        """The number of the variable of that name, which may be a new one."""
        if not is_name(word):
            raise WrongLine(self.line)
        if word not in self.variables:
            if len(self.variables) == MOST_VARIABLES:
                raise WrongLine(self.line)
            self.variables[word] = len(self.variables)
        return self.variables[word]

    def jump_to(self, label, instruction):
        """The instruction, whose place is found once all labels are read."""
        if not is_name(label):
            raise WrongLine(self.line)
        self.jumps.append((instruction, label, self.line))
        return instruction

    def find_places(self):
        for instruction, label, line in self.jumps:
            if label not in self.labels:
                raise WrongLine(line)
            instruction.place = self.labels[label]


def read_program(text):
    """The program that the text writes; WrongLine is raised where it writes none."""
    reading = Reading()
    for words in lines_of(text):
        reading.take_line(words)
    reading.find_places()
    return Program(reading.instructions, list(reading.variables))
