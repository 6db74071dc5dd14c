"""Programs run, so that one made better can be held against the one it was made of."""

from test_reckoning import expected


def parted(source):
    """The instructions as lists of words, and the labels' places."""
    instructions = []
    places = {}
    for row in source.split("\n"):
        words = row.split()
        if words and words[0] == "label":
            places[words[1]] = len(instructions)
        elif words:
            instructions.append(words)
    return instructions, places


def given(words, now, numbers):
    """The number that a row gives its variable; a read takes it from the numbers."""
    if words[2] == "read":
        return numbers.pop(0) if numbers else 0
    if len(words) == 5:
        return expected(now.get(words[2], 0), words[3], now.get(words[4], 0))
    return now.get(words[2], 0) if words[2][0].isalpha() else int(words[2])


def run(source, numbers, most):
    """What is printed in at most so many steps, how many are done, and whether the end is come to."""
    instructions, places = parted(source)
    numbers = list(numbers)
    now = {}
    printed = []
    place = 0
    for step in range(most + 1):
        if place == len(instructions) or instructions[place] == ["end"]:
            return printed, step, True
        if step == most:
            break
        words = instructions[place]
        place += 1
        if words[0] == "goto":
            place = places[words[1]]
        elif words[0] == "if":
            if now.get(words[1], 0) != 0:
                place = places[words[3]]
        elif words[0] == "print":
            printed.append(now.get(words[1], 0))
        else:
            now[words[0]] = given(words, now, numbers)
    return printed, most, False


def check_same(case, source, made, numbers, most):
    """One made better prints the same as the one it was made of, in no more steps."""
    printed, steps, ended = run(source, numbers, most)
    made_printed, made_steps, made_ended = run(made, numbers, most)
    if ended:
        case.assertEqual((made_printed, made_ended), (printed, True), (source, numbers))
        case.assertLessEqual(made_steps, steps, (source, numbers))
    else:
        # What hasn't come to its end has printed at least as much in as many steps.
        case.assertEqual(made_printed[:len(printed)], printed, (source, numbers))
