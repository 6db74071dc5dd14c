"""Made better by where gotos and ifs lead."""

from sameruns.leaving import closed_up
from sameruns.program import with_place
from sameruns.ways import ways_from


def behind_gotos(place, instructions):
    """Where one is led in the end who is led to the place; the place itself, where gotos go round."""
    passed = {}
    at = place
    while at < len(instructions) and instructions[at].kind == "goto":
        if at in passed:
            return place
        passed[at] = True
        at = instructions[at].place
    return at


def led_behind_gotos(instruction, instructions):
    if instruction.place is None:
        return instruction
    return with_place(instruction, behind_gotos(instruction.place, instructions))


def places_led_to(instructions):
    """The places that a way leads to from instruction 0, by either way of an if, as the keys of a dict."""
    found = {0: True}
    waiting = [0]
    while len(waiting) > 0:
        place = waiting.pop()
        if place == len(instructions):
            continue
        for way in ways_from(place, instructions[place]):
            if way not in found:
                found[way] = True
                waiting.append(way)
    return found


def better_by_ways(program):
    """The instructions, gotos and ifs led behind gotos, without those that nothing leads to or that lead nowhere."""
    instructions = program.instructions
    led = [led_behind_gotos(instruction, instructions) for instruction in instructions]
    found = places_led_to(led)
    staying = closed_up([instruction if place in found else None for place, instruction in enumerate(led)])
    # The end counts as what stands right behind the last: a step to it changes nothing either.
    return closed_up([None if instruction.place == place + 1 else instruction
                      for place, instruction in enumerate(staying)])
