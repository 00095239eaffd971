"""read against the document's list of faults, written down another way: of each line all the kinds that are so."""

import random
import re
import unittest

from tests.helper import read, run

NAME = "[A-Z][A-Z0-9]{0,3}"
END = NAME + r"\.[0-3]"
FORM = re.compile(f"(plain|point|cross) {NAME}|join {END} {END}|(border|signal) {END}")
ENDS = {"plain": 2, "point": 3, "cross": 4}


class Told:
    """What the lines before have told, by names alone."""

    def __init__(self):
        self.sections, self.joined, self.borders, self.signals = {}, set(), set(), set()

    def missing(self, end):
        name, digit = end.split(".")
        return name not in self.sections or int(digit) >= ENDS[self.sections[name]]

    def kinds_of_fault(self, line):
        if not FORM.fullmatch(line):
            return {1}
        word, *rest = line.split(" ")
        if word in ENDS:
            return ({2} if rest[0] in self.sections else set()) | ({7} if len(self.sections) >= 16 else set())
        kinds = {3} if any(self.missing(end) for end in rest) else set()
        if word == "signal":
            kinds |= {4} if rest[0] in self.signals else set()
            kinds |= {5} if rest[0] not in self.joined else set()
            kinds |= {7} if len(self.signals) >= 12 else set()
        elif any(end in self.joined | self.borders for end in rest) or rest[0] in rest[1:]:
            kinds |= {4}
        if word != "join" and self.sections.get(rest[0].split(".")[0]) in ("point", "cross"):
            kinds |= {6}
        return kinds

    def tell(self, line):
        word, *rest = line.split(" ")
        if word in ENDS:
            self.sections[rest[0]] = word
        else:
            {"join": self.joined, "border": self.borders, "signal": self.signals}[word].update(rest)


def expected(text):
    told = Told()
    for number, line in enumerate(re.findall("[^\n]*\n|[^\n]+", text)):
        kinds = told.kinds_of_fault(line[:-1]) if line.endswith("\n") else {1}
        if kinds:
            return [-6, number, min(kinds)]
        told.tell(line[:-1])
    return [len(told.sections)]


def some_line(source, names):
    def end():
        return f"{source.choice(names)}.{source.randint(0, source.choice((1, 1, 2, 3)))}"
    word = source.choice(("join", "join", "join", "border", "signal", "signal", "plain", "point", "cross"))
    if word in ENDS:
        return f"{word} {source.choice(names)}"
    return f"join {end()} {end()}" if word == "join" else f"{word} {end()}"


def some_text(source):
    """Lines that are right for a good while, as else the first or second fault would be all that is seen."""
    names = [f"S{number}" for number in range(source.choice((2, 4, 18)))]
    told, rows = Told(), []
    for number in range(source.randint(0, 50)):
        line = some_line(source, names)
        if not told.kinds_of_fault(line):
            told.tell(line)
            rows.append(line)
        elif source.random() < 0.02:
            rows.append(line)
    text = "".join(row + "\n" for row in rows)
    if text and source.random() < 0.3:
        place = source.randrange(len(text))
        text = text[:place] + source.choice(("", " ", "\n", ".", "4", "A", "a", "\xe9")) + text[place + 1:]
    return text


class AnyText(unittest.TestCase):
    def test_many_texts(self):
        source = random.Random(2)
        seen = {}
        for number in range(4000):
            text = some_text(source)
            asked = expected(text)
            self.assertEqual(run(read(text)), [asked], text)
            kind = asked[-1] if len(asked) == 3 else 0
            seen[kind] = seen.get(kind, 0) + 1
        self.assertEqual(sorted(set(seen) - {7}), [0, 1, 2, 3, 4, 5, 6])


if __name__ == "__main__":
    unittest.main()
