"""The document's "Made better" told once more, as plainly as can be and by other means than the program's own.

An instruction is a tuple: ("number", x, N), ("copy", x, y), ("operator", x, y, OP, z), ("read", x), ("print", x),
("goto", place), ("if", x, place), ("end",). What holds is a set of (x, y) and (x, y, OP, z). All that's brought is
gathered anew, round by round, until nothing changes.
"""

from helping import names_of
from running import parted
from test_reckoning import expected

GIVING = ("number", "copy", "operator", "read")


def read(source):
    rows, places = parted(source)
    names = names_of(source)
    return [instruction_of(words, names.index, places) for words in rows], names


def instruction_of(words, number, places):
    if words[0] == "goto":
        return ("goto", places[words[1]])
    if words[0] == "if":
        return ("if", number(words[1]), places[words[3]])
    if words[0] == "print":
        return ("print", number(words[1]))
    if words[0] == "end":
        return ("end",)
    if words[2] == "read":
        return ("read", number(words[0]))
    if len(words) == 5:
        return ("operator", number(words[0]), number(words[2]), words[3], number(words[4]))
    if words[2][0].isalpha():
        return ("copy", number(words[0]), number(words[2]))
    return ("number", number(words[0]), int(words[2]))


def gives(row):
    return row[1] if row[0] in GIVING else None


def uses(row):
    return {"copy": row[2:3], "operator": row[2:5:2], "print": row[1:2], "if": row[1:2]}.get(row[0], ())


def ways(place, row):
    return {"end": [], "goto": [row[-1]], "if": [place + 1, row[-1]]}.get(row[0], [place + 1])


def without(rows):
    """The rows that aren't None; what led to one that is leads to the next that isn't."""
    def moved(place):
        return len([row for row in rows[:place] if row is not None])
    return [row[:-1] + (moved(row[-1]),) if row[0] in ("goto", "if") else row for row in rows if row is not None]


def by_rounds(rows, first, behind, leads, meet):
    state = {0: first}
    while True:
        brought = {0: [first]}
        for place, before in state.items():
            if place < len(rows):
                for way in leads(place, rows[place], before):
                    brought.setdefault(way, []).append(behind(rows[place], before))
        new = {place: meet(many) for place, many in brought.items()}
        if new == state:
            return state
        state = new


def number_given(row, known):
    numbers = [known[variable] for variable in uses(row)]
    if row[0] == "read" or None in numbers:
        return None
    if row[0] == "operator":
        return expected(numbers[0], row[3], numbers[1])
    return numbers[0] if row[0] == "copy" else row[2]


def known_behind(row, known):
    return tuple(number_given(row, known) if gives(row) == variable else number
                 for variable, number in enumerate(known))


def known_ways(place, row, known):
    if row[0] == "if" and known[row[1]] is not None:
        return [row[2] if known[row[1]] else place + 1]
    return ways(place, row)


def known_by_all(many):
    return tuple(numbers[0] if len(set(numbers)) == 1 else None for numbers in zip(*many))


def first_point(rows, count):
    state = by_rounds(rows, (0,) * count, known_behind, known_ways, known_by_all)
    made = []
    for place, row in enumerate(rows):
        known = state.get(place)
        if known is None:
            row = None
        elif gives(row) is not None and number_given(row, known) is not None:
            number = number_given(row, known)
            row = None if known[row[1]] == number else ("number", row[1], number)
        elif row[0] == "if" and known[row[1]] is not None:
            row = ("goto", row[2]) if known[row[1]] else None
        made.append(row)
    return without(made)


def speaks_of(fact, variable):
    return variable in (fact[0], fact[1], fact[-1])


def holds_behind(row, held):
    if gives(row) is None or row[0] == "copy" and row[1] == row[2]:
        return held
    left = {fact for fact in held if not speaks_of(fact, row[1])}
    new = {row[1:]} if row[0] in ("copy", "operator") and row[1] not in uses(row) else set()
    return frozenset(left | new)


def rooted(row, held):
    def root(variable):
        return min((fact[1] for fact in held if len(fact) == 2 and fact[0] == variable), default=variable)
    if row[0] == "copy":
        return ("copy", row[1], root(row[2]))
    if row[0] == "operator":
        return ("operator", row[1], root(row[2]), row[3], root(row[4]))
    if row[0] in ("print", "if"):
        return (row[0], root(row[1])) + row[2:]
    return row


def by_what_holds(row, held):
    row = rooted(row, held)
    if row[0] not in ("copy", "operator"):
        return row
    if row[1:] in held or row[0] == "copy" and row[1] == row[2]:
        return None
    others = [fact[0] for fact in held if len(fact) == 4 and fact[1:] == row[2:]]
    return ("copy", row[1], min(others)) if others else row


def second_point(rows):
    state = by_rounds(rows, frozenset(), holds_behind, lambda place, row, held: ways(place, row),
                      lambda many: frozenset.intersection(*many))
    return without([by_what_holds(row, state[place]) for place, row in enumerate(rows)])


def third_point(rows):
    needed = [set() for place in range(len(rows) + 1)]
    while True:
        new = [set().union(*(needed[way] for way in ways(place, row))) - {gives(row)} | set(uses(row))
               for place, row in enumerate(rows)] + [set()]
        if new == needed:
            break
        needed = new
    return without([None if row[0] in ("number", "copy", "operator") and row[1] not in needed[place + 1] else row
                    for place, row in enumerate(rows)])


def led_on(rows, place):
    passed = [place]
    while passed[-1] < len(rows) and rows[passed[-1]][0] == "goto":
        passed.append(rows[passed[-1]][1])
        if passed[-1] in passed[:-1]:
            return place
    return passed[-1]


def fourth_point(rows):
    rows = [row[:-1] + (led_on(rows, row[-1]),) if row[0] in ("goto", "if") else row for row in rows]
    found = {0}
    while True:
        more = found.union(*(ways(place, rows[place]) for place in found if place < len(rows)))
        if more == found:
            break
        found = more
    rows = without([row if place in found else None for place, row in enumerate(rows)])
    return without([None if row[0] in ("goto", "if") and row[-1] == place + 1 else row
                    for place, row in enumerate(rows)])


def told(rows, names):
    places = sorted({row[-1] for row in rows if row[0] in ("goto", "if")})
    labels = {place: f"l{number}" for number, place in enumerate(places)}
    text = ""
    for place, row in enumerate(rows + [("end",)]):
        if place in labels:
            text += f"label {labels[place]}\n"
        if place < len(rows):
            text += row_told(row, names, labels) + "\n"
    return text


def row_told(row, names, labels):
    if row[0] == "goto":
        return f"goto {labels[row[1]]}"
    if row[0] == "if":
        return f"if {names[row[1]]} goto {labels[row[2]]}"
    if row[0] in ("print", "end"):
        return " ".join([row[0]] + [names[variable] for variable in row[1:]])
    given = {"number": lambda: str(row[2]), "read": lambda: "read", "copy": lambda: names[row[2]],
             "operator": lambda: f"{names[row[2]]} {row[3]} {names[row[4]]}"}[row[0]]()
    return f"{names[row[1]]} = {given}"


def made_better(source, times=64):
    rows, names = read(source)
    for turn in range(times):
        before = rows
        rows = fourth_point(third_point(second_point(first_point(rows, len(names)))))
        if rows == before:
            break
    return told(rows, names)
