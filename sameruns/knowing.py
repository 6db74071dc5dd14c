"""What's known at each place of a program.

Known at a place is a list with a number for each variable, or None where it's unknown.
"""

from sameruns.reckoning import reckoned
from sameruns.ways import brought_along, ways_from


def given_number(instruction, known):
    """The number that the instruction gives its variable; None if that's unknown."""
    if instruction.kind == "number":
        return instruction.number
    if instruction.kind == "read":
        return None
    numbers = [known[variable] for variable in instruction.used]
    if None in numbers:
        return None
    if instruction.kind == "copy":
        return numbers[0]
    return reckoned(instruction.operator, numbers[0], numbers[1])


def known_behind(instruction, known):
    """What's known behind an instruction, by what's known before it."""
    if instruction.given is None:
        return known
    behind = list(known)
    behind[instruction.given] = given_number(instruction, known)
    return behind


def known_ways(place, instruction, known):
    """The places that the instruction at a place may lead to, by what's known before it."""
    if instruction.kind != "if" or known[instruction.used[0]] is None:
        return ways_from(place, instruction)
    return [place + 1] if known[instruction.used[0]] == 0 else [instruction.place]


def known_before(program):
    """What's known at each place, the one behind the last among them; None where it isn't come to."""
    first = [0 for name in program.names]
    return brought_along(program.instructions, first, known_behind, known_ways)
