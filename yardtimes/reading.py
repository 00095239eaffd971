"""Takes a plan's text into a plan, line by line, up to its first fault."""

from yardtimes.wording import end_digit, end_name, lines_of, tells_ends, tells_section

MOST_SECTIONS = 16
MOST_SIGNALS = 12

RIGHT = 0
NO_SUCH_LINE = 1
NAME_IS_THERE = 2
NO_SUCH_END = 3
END_IS_TAKEN = 4
END_NOT_JOINED = 5
NOT_PLAIN = 6
TOO_MANY = 7


def take_text(plan, text):
    """Take all lines into a new plan; None, or the first wrong line's number and the kind of its fault."""
    lines = lines_of(text)
    for number, line in enumerate(lines[:-1]):
        kind = take_line(plan, line)
        if kind != RIGHT:
            return (number, kind)
    if lines[-1] != "":
        return (len(lines) - 1, NO_SUCH_LINE)
    return None


# Each of these looks for the kinds of fault in their order, as the lowest is told.


def take_line(plan, line):
    words = line.split(" ")
    if tells_section(words):
        return take_section(plan, words[0], words[1])
    if tells_ends(words):
        return take_ends(plan, words[0], words[1:])
    return NO_SUCH_LINE


def take_section(plan, kind, name):
    if name in plan.numbers:
        return NAME_IS_THERE
    if len(plan.kinds) == MOST_SECTIONS:
        return TOO_MANY
    plan.numbers[name] = len(plan.kinds)
    plan.kinds.append(kind)
    return RIGHT


def take_ends(plan, what, words):
    ends = [find_end(plan, word) for word in words]
    if None in ends:
        return NO_SUCH_END
    if what == "join":
        return take_join(plan, ends[0], ends[1])
    if what == "border":
        return take_border(plan, ends[0])
    return take_signal(plan, ends[0])


def find_end(plan, word):
    section = plan.numbers.get(end_name(word))
    if section is None or not plan.has_end(section, end_digit(word)):
        return None
    return (section, end_digit(word))


def is_taken(plan, end):
    return end in plan.joined or end in plan.borders


def take_join(plan, first, second):
    if first == second or is_taken(plan, first) or is_taken(plan, second):
        return END_IS_TAKEN
    plan.joined[first] = second
    plan.joined[second] = first
    return RIGHT


def take_border(plan, end):
    if is_taken(plan, end):
        return END_IS_TAKEN
    if not plan.is_plain(end[0]):
        return NOT_PLAIN
    plan.borders[end] = True
    return RIGHT


def take_signal(plan, end):
    if end in plan.signals:
        return END_IS_TAKEN
    if end not in plan.joined:
        return END_NOT_JOINED
    if not plan.is_plain(end[0]):
        return NOT_PLAIN
    if len(plan.signals) == MOST_SIGNALS:
        return TOO_MANY
    plan.signals[end] = True
    return RIGHT
