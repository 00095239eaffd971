"""Writes calls as numbers, and parts the answers call by call."""

from yardtimes.yard import answers

LARGEST = 4294967295


def read(text):
    numbers = list(text.encode("latin-1")) if isinstance(text, str) else list(text)
    return [0, len(numbers)] + numbers


def place(train, section, end):
    return [1, train, section, end]


def takes(section, time):
    return [2, section, time]


def ready(train, time):
    return [3, train, time]


def times(*moves):
    return [4] + row(moves)


def slack(number, *moves):
    return [5, number] + row(moves)


def chain(*moves):
    return [6] + row(moves)


def best(a, b, c, most):
    return [7, a, b, c, most]


def row(moves):
    """Moves are pairs of a train and what it does."""
    numbers = [number for move in moves for number in move]
    return [len(numbers)] + numbers


def lines(*told):
    return "".join(line + "\n" for line in told)


def run(*calls):
    """The answers, one list a call; what is handed in must stay as it was, and a second run must answer the same."""
    handed = [number for call in calls for number in call]
    kept = list(handed)
    told = answers(handed)
    if handed != kept:
        raise AssertionError("what was handed in was changed")
    if answers(handed) != told:
        raise AssertionError("a second run answered something else")
    if not all(type(number) is int for number in told):
        raise AssertionError(f"not whole numbers alone: {told}")
    parted = []
    while told:
        parted.append(told[1:1 + told[0]])
        told = told[1 + told[0]:]
    if len(parted) != len(calls):
        raise AssertionError(f"{len(calls)} calls, {len(parted)} answers")
    return parted


def diamonds(count):
    """Lines of a way from A.1 to Z.0 that parts in two and comes together again, so many times."""
    told = ["plain A", "plain Z"]
    last = "A.1"
    for number in range(count):
        parts, meets = f"P{number}", f"Q{number}"
        told += [f"point {parts}", f"point {meets}", f"join {last} {parts}.0"]
        told += [f"join {parts}.1 {meets}.1", f"join {parts}.2 {meets}.2"]
        last = f"{meets}.0"
    return told + [f"join {last} Z.0"]


def joined_at_random(source, kinds, chance):
    """Lines of sections of these kinds, whose ends are joined by that chance; and the lines of all signals there can be."""
    ends = [(f"S{number}.{end}", kind) for number, kind in enumerate(kinds)
            for end in range({"plain": 2, "point": 3, "cross": 4}[kind])]
    source.shuffle(ends)
    told = [f"{kind} S{number}" for number, kind in enumerate(kinds)]
    signals = []
    while len(ends) > 1:
        pair = (ends.pop(), ends.pop())
        if source.random() < chance:
            told.append(f"join {pair[0][0]} {pair[1][0]}")
            signals += [f"signal {end}" for end, kind in pair if kind == "plain"]
        else:
            told += [f"border {end}" for end, kind in pair if kind == "plain"]
    return told, signals


# A, B, C and D in a line. Move 2 goes from A to B, 3 from B to C, 4 from C to D, 5 from D back through C and B to A.
LINE = read(lines("plain A", "plain B", "plain C", "plain D", "border A.0", "border D.1", "join A.1 B.0", "join B.1 C.0",
                  "join C.1 D.0", "signal A.1", "signal B.1", "signal C.1", "signal D.0"))
