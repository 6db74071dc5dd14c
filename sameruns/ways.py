"""The ways that a program may go, and what's brought along them."""


def ways_from(place, instruction):
    """The places that the instruction at a place may lead to, by either way of an if."""
    if instruction.kind == "end":
        return []
    if instruction.kind == "goto":
        return [instruction.place]
    if instruction.kind == "if":
        return [place + 1, instruction.place]
    return [place + 1]


def agreed(before, brought):
    """What's said of each variable where both are brought; before is None where nothing was brought yet."""
    if before is None:
        return brought
    return [one if one == other else None for one, other in zip(before, brought)]


def brought_along(instructions, first, behind, ways):
    """What's brought to each place, the one behind the last among them; None where nothing is.

    What's brought is a list that says something of each variable, or None. It is shared between
    places, so it is never changed once it's made. first: what is there before instruction 0.
    behind(instruction, before): what the instruction makes of it.
    ways(place, instruction, before): the places that it brings this to.
    """
    before = [None for place in range(len(instructions) + 1)]
    before[0] = first
    waiting = [0]
    while len(waiting) > 0:
        place = waiting.pop()
        if place == len(instructions):
            continue
        instruction = instructions[place]
        brought = behind(instruction, before[place])
        for way in ways(place, instruction, before[place]):
            together = agreed(before[way], brought)
            if together != before[way]:
                before[way] = together
                waiting.append(way)
    return before
