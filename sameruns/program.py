"""What a program is, once its text is read."""


class Instruction:
    """One instruction; variables are told by their numbers. Once a program is read, none is changed.

    kind is one of "number", "copy", "operator", "read", "print", "goto", "if", "end".
    used: the variables it uses, as they stand. given: the variable it gives something.
    number: that of `x = N`. operator: the word that writes it. place: where a goto or an if goes;
    how many instructions there are, if that's the end.
    """

    def __init__(self, kind, used, given=None, number=None, operator=None, place=None):
        self.kind = kind
        self.used = used
        self.given = given
        self.number = number
        self.operator = operator
        self.place = place


class Program:
    """The instructions, and the variables' names by their numbers."""

    def __init__(self, instructions, names):
        self.instructions = instructions
        self.names = names


def with_place(instruction, place):
    """The same goto or if, but to another place."""
    return Instruction(instruction.kind, instruction.used, place=place)


def with_used(instruction, used):
    """The same instruction, but it uses other variables."""
    given = instruction.given
    return Instruction(instruction.kind, used, given=given, operator=instruction.operator, place=instruction.place)
