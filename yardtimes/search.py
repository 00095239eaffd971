"""The row of moves that brings what is wanted soonest, of all rows of at most so many moves."""

from yardtimes.moves import FIRST_ROUTE, LEAVE, TURN, move_of
from yardtimes.rows import empty_row, longer_row

MOST_ROWS = 20000

ANYTHING = 0
NOT_THERE = 1
FIRST_SECTION = 2


class Search:
    """What can be reached in a yard, found once of each way in which the trains may stand."""

    def __init__(self, yard, wanted):
        self.yard = yard
        self.wanted = wanted
        self.origin = tuple(yard.stands)
        self.known_moves = {}
        self.known_reach = {}
        # Of each end at which routes begin: what a train does there that goes by one of them.
        self.rides = {}
        for number, route in enumerate(yard.routes):
            self.rides.setdefault(route.start, []).append(number + FIRST_ROUTE)

    def moves_from(self, stands):
        """All moves that can be made, in the plans' order."""
        if stands not in self.known_moves:
            self.known_moves[stands] = self.find_moves(stands)
        return self.known_moves[stands]

    def find_moves(self, stands):
        moves = []
        for train, stand in enumerate(stands):
            for what in [TURN, LEAVE] + self.rides.get(stand, []):
                moves.append(move_of(self.yard, stands, train, what))
        return [move for move in moves if move is not None]

    def is_wanted(self, stands):
        return all([suits(stand, want) for stand, want in zip(stands, self.wanted)])

    def reaches(self, stands, left):
        """Whether what is wanted can be so behind at most so many moves."""
        key = (stands, left)
        if key not in self.known_reach:
            self.known_reach[key] = self.is_wanted(stands) or self.reaches_onward(stands, left)
        return self.known_reach[key]

    def reaches_onward(self, stands, left):
        return left > 0 and any([self.reaches(move.stands, left - 1) for move in self.moves_from(stands)])


def suits(stand, want):
    if want == ANYTHING:
        return True
    if want == NOT_THERE:
        return stand is None
    return stand is not None and stand[0] == want - FIRST_SECTION


def has_too_many_rows(search, most):
    """Whether there are too many rows of at most so many moves, whatever is wanted."""
    # Of each way in which the trains may stand how many rows lead there, as so not each row has to be walked.
    counts = {search.origin: 1}
    total = 1
    for made in range(most):
        further = {}
        for stands, count in counts.items():
            for move in search.moves_from(stands):
                further[move.stands] = further.get(move.stands, 0) + count
                total += count
            if total > MOST_ROWS:
                return True
        counts = further
    return False


def best_row(search, most):
    """The row that is done soonest, of as soon ones that with the fewest moves, of these the first; None if none is."""
    rows = [empty_row(search.origin)]
    best = soonest(search, rows, None)
    for left in range(most - 1, -1, -1):
        rows = longer_rows(search, rows, left, best)
        best = soonest(search, rows, best)
    return best


def soonest(search, rows, best):
    # Rows come with the fewest moves first, as long ones in the plans' order: a later one has to be sooner.
    for row in rows:
        if search.is_wanted(row.stands) and is_sooner(row, best):
            best = row
    return best


def longer_rows(search, rows, left, best):
    """The rows one move longer, without those that can't become the best by so many moves that are left."""
    longer = []
    for row in rows:
        for move in search.moves_from(row.stands):
            if search.reaches(move.stands, left):
                longer.append(longer_row(row, move, search.yard.ready_times[move.train]))
    # No further move makes a row done sooner.
    return [row for row in longer if is_sooner(row, best)]


def is_sooner(row, best):
    return best is None or row.done < best.done
