"""Rows of moves: when each begins, how late it may begin, and what holds all up."""

from yardtimes.moves import move_of


class Row:
    """Moves, one behind another, each begun as soon as it can."""

    def __init__(self, stands, moves, begins, done):
        # Of each train behind the row: None, or the end for which it heads.
        self.stands = stands
        self.moves = moves
        self.begins = begins
        self.done = done


def empty_row(stands):
    return Row(stands, [], [], 0)


def row_of(yard, told):
    """The row of the moves told, up to the first one that can't be made."""
    row = empty_row(tuple(yard.stands))
    for train, what in zip(told[::2], told[1::2]):
        move = move_of(yard, row.stands, train, what)
        if move is None:
            return row
        row = longer_row(row, move, yard.ready_times[train])
    return row


def longer_row(row, move, ready_time):
    begin = begin_behind(row, move, ready_time)
    return Row(move.stands, row.moves + [move], row.begins + [begin], max(row.done, begin + move.lasts))


def begin_behind(row, move, ready_time):
    """When the move begins at the earliest, behind those of the row."""
    time = ready_time
    for earlier, begin in zip(row.moves, row.begins):
        wait = wait_for(earlier, move)
        if wait > 0:
            time = max(time, begin + wait)
    return time


def wait_for(earlier, later):
    """How long after the earlier move began the later one may begin; 0 if it needn't wait, as no move takes 0."""
    if earlier.train == later.train:
        # Whatever the train has left, it has left by then.
        return earlier.lasts
    return max([earlier.frees.get(section, 0) for section in later.through], default=0)


def wait_in(row, earlier, later):
    """The same of two moves of the row, by their numbers."""
    return wait_for(row.moves[earlier], row.moves[later])


def ends_of(row):
    return [begin + move.lasts for begin, move in zip(row.begins, row.moves)]


def slack_of(row, number):
    return row.done - row.begins[number] - tails_of(row)[number]


def tails_of(row):
    """Of each move: how long after it begins it and all that must wait for it are done, if these begin at once."""
    tails = [move.lasts for move in row.moves]
    for earlier in range(len(tails) - 1, -1, -1):
        for later in range(earlier + 1, len(tails)):
            wait = wait_in(row, earlier, later)
            if wait > 0:
                tails[earlier] = max(tails[earlier], wait + tails[later])
    return tails


def chain_of(row):
    """The numbers of the moves that hold all up, the first one first."""
    if not row.moves:
        return []
    chain = [ends_of(row).index(row.done)]
    # One walk finds them all: what binds a move stands before it in the row.
    for earlier in range(chain[0] - 1, -1, -1):
        if is_bound(row, earlier, chain[-1]):
            chain.append(earlier)
    return list(reversed(chain))


def is_bound(row, earlier, later):
    """Whether the earlier move binds the later one."""
    # The longest wait alone can be over just then, as the later move waits for them all. Nor can one be that comes
    # before the last through a section: that section came free once more behind it.
    wait = wait_in(row, earlier, later)
    return wait > 0 and row.begins[earlier] + wait == row.begins[later]
