"""What's needed at each place of a program: a whole number with a bit for each variable."""

from sameruns.ways import ways_from


def bit_of(variable):
    return 1 << variable


def bits_used(instruction):
    bits = 0
    for variable in instruction.used:
        bits = bits | bit_of(variable)
    return bits


def needed_at(place, instruction, needed):
    """What's needed before the instruction at a place, by what's needed before those it may lead to."""
    bits = 0
    for way in ways_from(place, instruction):
        bits = bits | needed[way]
    if instruction.given is not None:
        bits = bits & ~bit_of(instruction.given)
    return bits | bits_used(instruction)


def needed_before(program):
    """What's needed at each place; nothing behind the last."""
    instructions = program.instructions
    needed = [0 for place in range(len(instructions) + 1)]
    changed = True
    while changed:
        changed = False
        # From the last on, since what's needed is told against the way that a program mostly goes.
        for place in range(len(instructions) - 1, -1, -1):
            bits = needed_at(place, instructions[place], needed)
            if bits != needed[place]:
                needed[place] = bits
                changed = True
    return needed
