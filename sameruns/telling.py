"""A program told as a text."""

from sameruns.words import NEWLINE, SPACE, spelled


def words_of(instruction, names, labels):
    """The words that write an instruction; names by variable, labels by place."""
    used = [names[variable] for variable in instruction.used]
    if instruction.kind == "goto":
        return [spelled("goto"), labels[instruction.place]]
    if instruction.kind == "if":
        return [spelled("if"), used[0], spelled("goto"), labels[instruction.place]]
    if instruction.given is None:
        return [spelled(instruction.kind)] + used
    return [names[instruction.given], spelled("=")] + words_given(instruction, used)


def words_given(instruction, used):
    """The words behind the sign of what gives a variable something."""
    if instruction.kind == "number":
        return [spelled(str(instruction.number))]
    if instruction.kind == "read":
        return [spelled("read")]
    if instruction.kind == "copy":
        return used
    return [used[0], instruction.operator, used[1]]


def labels_of(instructions):
    """The labels' names by their places: those where a goto or an if leads, in their order."""
    places = sorted(set([instruction.place for instruction in instructions if instruction.place is not None]))
    return dict([(place, spelled(f"l{number}")) for number, place in enumerate(places)])


def lines_told(program):
    """The lines of the program, each as the list of its words."""
    instructions = program.instructions
    labels = labels_of(instructions)
    lines = []
    for place in range(len(instructions) + 1):
        if place in labels:
            lines.append([spelled("label"), labels[place]])
        if place < len(instructions):
            lines.append(words_of(instructions[place], program.names, labels))
    return lines


def line_told(words):
    """The bytes of a line, with single blanks and its newline."""
    signs = []
    for word in words:
        signs.extend(word)
        signs.append(SPACE)
    # The newline stands where the last word's blank would.
    signs[-1] = NEWLINE
    return signs


def told(program):
    """The bytes of the program's text."""
    signs = []
    for words in lines_told(program):
        signs.extend(line_told(words))
    return signs
