"""What holds at each place of a program: `x is y`, `x is y OP z`.

Giving x something ends all that spoke of x, so each variable is one thing at most. What holds is
therefore a list that tells for each variable what it is: an operator and the two that it takes, or
None and the one that it's a copy of; or None, if nothing holds of it.
"""

from sameruns.ways import brought_along, ways_from


def thing_of(instruction):
    """What the instruction's variable is behind it; None where nothing can be said."""
    if instruction.kind not in ("copy", "operator") or instruction.given in instruction.used:
        return None
    return (instruction.operator, instruction.used)


def is_copy_to_itself(instruction):
    return instruction.kind == "copy" and instruction.used[0] == instruction.given


def holds_behind(instruction, held):
    """What holds behind an instruction, by what holds before it."""
    given = instruction.given
    if given is None or is_copy_to_itself(instruction):
        return held
    behind = [None if thing is not None and given in thing[1] else thing for thing in held]
    behind[given] = thing_of(instruction)
    return behind


def holds_ways(place, instruction, held):
    return ways_from(place, instruction)


def holds_before(program):
    """What holds at each place, the one behind the last among them; None where no way leads."""
    first = [None for name in program.names]
    return brought_along(program.instructions, first, holds_behind, holds_ways)


def root_of(variable, held):
    """The one that the variable is a copy of; itself, if there's none."""
    thing = held[variable]
    if thing is None or thing[0] is not None:
        return variable
    return thing[1][0]
