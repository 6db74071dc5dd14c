"""What's left of a program when some of it is left out."""

from sameruns.program import with_place


def closed_up(instructions):
    """The instructions that stay, where None stands for one left out; what led to it leads to the next that stays."""
    # How many stay ahead of a place is where the next that stays comes to stand.
    moved = []
    count = 0
    for instruction in instructions:
        moved.append(count)
        if instruction is not None:
            count = count + 1
    moved.append(count)
    return [led_anew(instruction, moved) for instruction in instructions if instruction is not None]


def led_anew(instruction, moved):
    if instruction.place is None:
        return instruction
    return with_place(instruction, moved[instruction.place])
