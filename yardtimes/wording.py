"""The form of a plan's text: its lines, words, names and ends, whatever they speak of."""

from yardtimes.plan import is_section_kind

SIGNS = "\n .0123456789ABCDEFGHIJKLMNOPQRSTUVWXYZabcdefghijklmnopqrstuvwxyz"

# Of each word that speaks of ends: of how many.
END_COUNTS = {"join": 2, "border": 1, "signal": 1}

LONGEST_NAME = 4


def lines_of(text):
    """What stands before each byte 10, and last what stands behind the last one."""
    table = {}
    for sign in SIGNS:
        table[ord(sign)] = sign
    # No line that is right holds another byte, so one sign that none holds may stand for them all.
    return "".join([table.get(byte, "?") for byte in text]).split("\n")


def is_capital(sign):
    return "A" <= sign <= "Z"


def is_digit(sign):
    return "0" <= sign <= "9"


def is_name(word):
    if not 1 <= len(word) <= LONGEST_NAME:
        return False
    return is_capital(word[0]) and all([is_capital(sign) or is_digit(sign) for sign in word])


def is_end(word):
    return is_name(word[:-2]) and word[-2] == "." and "0" <= word[-1] <= "3"


def end_name(word):
    return word[:-2]


def end_digit(word):
    return int(word[-1])


def tells_section(words):
    return len(words) == 2 and is_section_kind(words[0]) and is_name(words[1])


def tells_ends(words):
    return len(words) - 1 == END_COUNTS.get(words[0]) and all([is_end(word) for word in words[1:]])
