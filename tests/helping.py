"""What the tests have in common."""

from sameruns.desk import bt_better, bt_known, bt_run

LOWEST = -2 ** 63
HIGHEST = 2 ** 63 - 1


def as_list(source):
    """The list of bytes of a text that is written as a str or as bytes."""
    return list(source.encode("latin-1") if isinstance(source, str) else source)


def answer(at, source):
    return bt_known(at, as_list(source))


def names_of(source):
    """The variables' names by their numbers, for correct programs."""
    names = []
    for line in source.split("\n"):
        words = line.split()
        if not words or words[0] in ("label", "goto", "end"):
            continue
        places = {"print": [1], "if": [1]}.get(words[0], [0, 2, 4])
        for place in places:
            if place < len(words) and words[place] not in names:
                word = words[place]
                if word != "read" and word[0].isalpha():
                    names.append(word)
    return names


def known(at, source):
    """What's known at a place, by the variables' names; None for unknown ones.

    It is checked on the way that the answer has its form.
    """
    got = answer(at, source)
    names = names_of(source)
    if len(got) != 129 or got[0] != len(names):
        raise AssertionError(f"{got[:9]} for {names}")
    pairs = list(zip(got[1::2], got[2::2]))
    for flag, number in pairs:
        if flag not in (0, 1) or (flag == 0 and number != 0):
            raise AssertionError(f"the pair {flag} {number}")
    if any(pair != (0, 0) for pair in pairs[len(names):]):
        raise AssertionError("a variable is told that isn't there")
    return {name: number if flag else None for name, (flag, number) in zip(names, pairs)}


def lines(*rows):
    """A text of these rows, a newline behind each."""
    return "".join(row + "\n" for row in rows)


def better(source):
    """The text of the program made better; it is checked on the way that the answer has its form."""
    got = bt_better(65536, as_list(source))
    if got[0] != len(got) - 1:
        raise AssertionError(f"{got[:9]} for {source[:200]!r}")
    return bytes(got[1:]).decode("ascii")


def ran(source, inputs=(), made=0, steps=1000000, most=65536):
    """What is printed, and how many steps are done; the number alone of a refusal.

    It is checked on the way that the answer has its form.
    """
    got = bt_run(made, steps, most, as_list(source), list(inputs))
    if type(got) is not list or any(type(number) is not int for number in got):
        raise AssertionError(f"{got[:9]} for {source[:200]!r}")
    if got[0] < 0 and len(got) == 1:
        return got[0]
    if got[0] < 0 or len(got) != got[0] + 2 or any(not LOWEST <= number <= HIGHEST for number in got):
        raise AssertionError(f"{got[:9]} for {source[:200]!r}")
    return got[1:-1], got[-1]
