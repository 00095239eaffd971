"""A plan: its sections, and what stands at their ends."""

# Of each kind of section, by the end that a train comes in by: the ends that it may leave by, the lowest first.
EXITS = {
    "plain": ((1,), (0,)),
    "point": ((1, 2), (0,), (0,)),
    "cross": ((1,), (0,), (3,), (2,)),
}


def is_section_kind(word):
    return word in EXITS


class Plan:
    """Sections are known by their numbers; an end is the tuple of its section's number and its digit."""

    def __init__(self):
        self.kinds = []
        self.numbers = {}
        self.joined = {}
        self.borders = {}
        self.signals = {}

    def has_end(self, section, digit):
        return section < len(self.kinds) and digit < len(EXITS[self.kinds[section]])

    def is_plain(self, section):
        return self.kinds[section] == "plain"

    def exits(self, end):
        return EXITS[self.kinds[end[0]]][end[1]]

    def may_stop(self, end):
        """Whether a train may stop in the end's section, heading for the end."""
        # A border needs no question of its own: it is never joined.
        return self.is_plain(end[0]) and (end in self.signals or end not in self.joined)
