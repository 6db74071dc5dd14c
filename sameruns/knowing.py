"""What's known at each place of a program.

Known at a place is a list with a number for each variable, or None where it's unknown. Such a list
is shared between places, so it is never changed once it's made.
"""

from sameruns.reckoning import reckoned


def given_number(instruction, known):
    """The number that the instruction gives its variable; None if that's unknown."""
    if instruction.kind == "number":
        return instruction.number
    if instruction.kind == "read":
        return None
    numbers = [known[variable] for variable in instruction.used]
    if None in numbers:
        return None
    if instruction.kind == "copy":
        return numbers[0]
    return reckoned(instruction.operator, numbers[0], numbers[1])


def known_behind(instruction, known):
    """What's known behind an instruction, by what's known before it."""
    if instruction.given is None:
        return known
    behind = list(known)
    behind[instruction.given] = given_number(instruction, known)
    return behind


def ways_from(place, instruction, known):
    """The places that the instruction at a place may lead to, by what's known before it."""
    if instruction.kind == "end":
        return []
    if instruction.kind == "goto":
        return [instruction.place]
    if instruction.kind != "if":
        return [place + 1]
    asked = known[instruction.used[0]]
    if asked is None:
        return [place + 1, instruction.place]
    return [place + 1] if asked == 0 else [instruction.place]


def agreed(known, brought):
    """What's known where both are brought; known is None where nothing was brought before."""
    if known is None:
        return brought
    return [number if number == other else None for number, other in zip(known, brought)]


def known_before(program):
    """What's known at each place, the one behind the last among them; None where it isn't come to."""
    instructions = program.instructions
    before = [None for place in range(len(instructions) + 1)]
    before[0] = [0 for variable in range(program.variable_count)]
    waiting = [0]
    while len(waiting) > 0:
        place = waiting.pop()
        if place == len(instructions):
            continue
        instruction = instructions[place]
        behind = known_behind(instruction, before[place])
        for way in ways_from(place, instruction, before[place]):
            known = agreed(before[way], behind)
            if known != before[way]:
                before[way] = known
                waiting.append(way)
    return before
