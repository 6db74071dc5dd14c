"""The calls: each takes values and answers a list of whole numbers."""

from sameruns.bettering import made_better
from sameruns.knowing import known_before
from sameruns.reading import MOST_VARIABLES, WrongLine, read_program
from sameruns.running import run
from sameruns.telling import told

WRONG_LINE = -100
NOT_AT_END = -5
NO_SUCH_PLACE = -4
NOT_COME_TO = -3
NOT_IN_RANGE = -2
TOO_MANY = -1
HIGHEST_MOST = 65536
HIGHEST_STEPS = 1000000


def bt_known(at, text):
    """How many variables there are, and what's known of 64 before instruction at; or a refusal."""
    try:
        program = read_program(text)
    except WrongLine as wrong:
        return [WRONG_LINE - wrong.line]
    if at < 0 or at > len(program.instructions):
        return [NO_SUCH_PLACE]
    known = known_before(program)[at]
    if known is None:
        return [NOT_COME_TO]
    return [len(program.names)] + known_told(known)


def known_told(known):
    """1 and its number for each known variable; 0 and 0 for the others, and for those there aren't."""
    told_numbers = []
    for number in known:
        told_numbers.extend([0, 0] if number is None else [1, number])
    for missing in range(MOST_VARIABLES - len(known)):
        told_numbers.extend([0, 0])
    return told_numbers


def bt_better(most, text):
    """How many bytes the program made better has, and these bytes; or a refusal."""
    if most < 0 or most > HIGHEST_MOST:
        return [NOT_IN_RANGE]
    try:
        program = read_program(text)
    except WrongLine as wrong:
        return [WRONG_LINE - wrong.line]
    signs = told(made_better(program))
    if len(signs) > most:
        return [TOO_MANY]
    return [len(signs)] + signs


def bt_run(made, steps, most, text, inputs):
    """How many numbers the program prints, these numbers, and how many steps it does; or a refusal."""
    if not are_in_range(made, steps, most):
        return [NOT_IN_RANGE]
    try:
        program = read_program(text)
    except WrongLine as wrong:
        return [WRONG_LINE - wrong.line]
    done = run(made_better(program) if made == 1 else program, inputs, steps)
    if done is None:
        return [NOT_AT_END]
    if len(done.printed) > most:
        return [TOO_MANY]
    return [len(done.printed)] + done.printed + [done.steps]


def are_in_range(made, steps, most):
    return 0 <= made <= 1 and 0 <= steps <= HIGHEST_STEPS and 0 <= most <= HIGHEST_MOST
