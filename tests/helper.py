"""Writes calls as numbers, and parts the answers call by call."""

from yardtimes.yard import answers

LARGEST = 4294967295


def read(text):
    numbers = list(text.encode("latin-1")) if isinstance(text, str) else list(text)
    return [0, len(numbers)] + numbers


def place(train, section, end):
    return [1, train, section, end]


def takes(section, time):
    return [2, section, time]


def ready(train, time):
    return [3, train, time]


def lines(*told):
    return "".join(line + "\n" for line in told)


def run(*calls):
    """The answers, one list a call; what is handed in must stay as it was, and a second run must answer the same."""
    handed = [number for call in calls for number in call]
    kept = list(handed)
    told = answers(handed)
    if handed != kept:
        raise AssertionError("what was handed in was changed")
    if answers(handed) != told:
        raise AssertionError("a second run answered something else")
    if not all(type(number) is int for number in told):
        raise AssertionError(f"not whole numbers alone: {told}")
    parted = []
    while told:
        parted.append(told[1:1 + told[0]])
        told = told[1 + told[0]:]
    if len(parted) != len(calls):
        raise AssertionError(f"{len(calls)} calls, {len(parted)} answers")
    return parted


def diamonds(count):
    """Lines of a way from A.1 to Z.0 that parts in two and comes together again, so many times."""
    told = ["plain A", "plain Z"]
    last = "A.1"
    for number in range(count):
        parts, meets = f"P{number}", f"Q{number}"
        told += [f"point {parts}", f"point {meets}", f"join {last} {parts}.0"]
        told += [f"join {parts}.1 {meets}.1", f"join {parts}.2 {meets}.2"]
        last = f"{meets}.0"
    return told + [f"join {last} Z.0"]
