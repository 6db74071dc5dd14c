"""Programs made better by what's known, by what holds, by what's needed and by where they lead.

What's said of one instruction is what becomes of it, or None where it's left out.
"""

from sameruns.holding import holds_before, is_copy_to_itself, root_of
from sameruns.jumping import better_by_ways
from sameruns.knowing import given_number, known_before
from sameruns.leaving import closed_up
from sameruns.needing import bit_of, needed_before
from sameruns.program import Instruction, Program, with_used
from sameruns.telling import told

TIMES = 64


def if_by_known(instruction, known):
    asked = known[instruction.used[0]]
    if asked is None:
        return instruction
    if asked == 0:
        return None
    return Instruction("goto", (), place=instruction.place)


def giving_by_known(instruction, known):
    number = given_number(instruction, known)
    if number is None:
        return instruction
    if number == known[instruction.given]:
        return None
    return Instruction("number", (), given=instruction.given, number=number)


def by_known(instruction, known):
    if known is None:
        return None
    if instruction.kind == "if":
        return if_by_known(instruction, known)
    if instruction.given is not None:
        return giving_by_known(instruction, known)
    return instruction


def better_by_known(program):
    known = known_before(program)
    return closed_up([by_known(instruction, before) for instruction, before in zip(program.instructions, known)])


def giving_by_held(instruction, held):
    """What becomes of a copy or an operator, which uses roots already."""
    thing = (instruction.operator, instruction.used)
    if is_copy_to_itself(instruction) or held[instruction.given] == thing:
        return None
    if instruction.kind == "operator" and thing in held:
        # The first that's found is the least numbered.
        return Instruction("copy", (held.index(thing),), given=instruction.given)
    return instruction


def by_held(instruction, held):
    if len(instruction.used) == 0:
        return instruction
    rooted = with_used(instruction, tuple([root_of(variable, held) for variable in instruction.used]))
    return rooted if rooted.given is None else giving_by_held(rooted, held)


def better_by_held(program):
    held = holds_before(program)
    return closed_up([by_held(instruction, before) for instruction, before in zip(program.instructions, held)])


def by_needed(instruction, needed_behind):
    # A read stays: the next one would be handed its number.
    if instruction.given is None or instruction.kind == "read":
        return instruction
    return None if (needed_behind & bit_of(instruction.given)) == 0 else instruction


def better_by_needed(program):
    needed_behind = needed_before(program)[1:]
    return closed_up([by_needed(instruction, bits) for instruction, bits in zip(program.instructions, needed_behind)])


def better_once(program):
    """The program once made better, each point on what the one in front made."""
    for better in (better_by_known, better_by_held, better_by_needed, better_by_ways):
        program = Program(better(program), program.names)
    return program


def made_better(program):
    """The program made better as often as it's to be done."""
    for turn in range(TIMES):
        better = better_once(program)
        # What is told the same is the same program: no further turn would change it.
        if told(better) == told(program):
            return better
        program = better
    return program
