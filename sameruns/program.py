"""What a program is, once its text is read."""


class Instruction:
    """One instruction; variables are told by their numbers.

    kind is one of "number", "copy", "operator", "read", "print", "goto", "if", "end".
    used: the variables it uses, as they stand. given: the variable it gives something.
    number: that of `x = N`. operator: the word that writes it. place: where a goto or an if goes;
    how many instructions there are, if that's the end.
    """

    def __init__(self, kind, used, given=None, number=None, operator=None, place=None):
        self.kind = kind
        self.used = used
        self.given = given
        self.number = number
        self.operator = operator
        self.place = place


class Program:
    """The instructions, and how many variables there are."""

    def __init__(self, instructions, variable_count):
        self.instructions = instructions
        self.variable_count = variable_count
