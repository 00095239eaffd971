"""The calls on one yard, and what is answered to them."""

from yardtimes.plan import Plan
from yardtimes.reading import take_text
from yardtimes.routes import routes_of
from yardtimes.rows import chain_of, ends_of, row_of, slack_of
from yardtimes.search import Search, best_row, has_too_many_rows

MOST_BYTES = 1024
MOST_ROUTES = 64
LAST_TRAIN = 2
LONGEST_TIME = 1000
LATEST_READY = 1000000
MOST_MOVES = 64
MOST_PLANNED = 5


class NoSuchCall(ValueError):
    """A call's number that tells none of the calls."""


class Yard:
    """Each call's method answers a list: its number and what is told behind it, or a refusal."""

    def __init__(self):
        self.begin(Plan(), [])

    def begin(self, plan, routes):
        self.plan = plan
        self.routes = routes
        # Of each train None, or the end for which it heads in the section where it stands.
        self.stands = [None, None, None]
        self.section_times = [1 for kind in plan.kinds]
        self.ready_times = [0, 0, 0]

    def read(self, text):
        if len(text) > MOST_BYTES:
            return [-2]
        plan = Plan()
        fault = take_text(plan, text)
        if fault is not None:
            return [-6, fault[0], fault[1]]
        routes = routes_of(plan)
        if len(routes) > MOST_ROUTES:
            return [-9]
        self.begin(plan, routes)
        return [len(plan.kinds)]

    def place(self, train, section, end):
        if train > LAST_TRAIN:
            return [-1]
        if not self.plan.has_end(section, end) or not self.plan.is_plain(section):
            return [-4]
        if self.holds_another(section, train):
            return [-5]
        self.stands[train] = (section, end)
        return [0]

    def holds_another(self, section, train):
        for other, stand in enumerate(self.stands):
            if other != train and stand is not None and stand[0] == section:
                return True
        return False

    def takes(self, section, time):
        if not 1 <= time <= LONGEST_TIME:
            return [-1]
        if section >= len(self.section_times):
            return [-4]
        self.section_times[section] = time
        return [0]

    def ready(self, train, time):
        if train > LAST_TRAIN or time > LATEST_READY:
            return [-1]
        self.ready_times[train] = time
        return [0]

    def times(self, told):
        row = row_of(self, told)
        refusal = row_refusal(row, told)
        if refusal is not None:
            return refusal
        answer = [row.done]
        for begin, end in zip(row.begins, ends_of(row)):
            answer.extend([begin, end])
        return answer

    def slack(self, number, told):
        row = row_of(self, told)
        refusal = row_refusal(row, told)
        if refusal is not None:
            return refusal
        if number >= len(row.moves):
            return [-4]
        return [slack_of(row, number)]

    def chain(self, told):
        row = row_of(self, told)
        refusal = row_refusal(row, told)
        if refusal is not None:
            return refusal
        chain = chain_of(row)
        return [len(chain)] + chain

    def best(self, wanted, most):
        if max(wanted) > len(self.plan.kinds) + 1 or most > MOST_PLANNED:
            return [-1]
        search = Search(self, wanted)
        if has_too_many_rows(search, most):
            return [-8]
        row = best_row(search, most)
        if row is None:
            return [-3]
        answer = [row.done, len(row.moves)]
        for move in row.moves:
            answer.extend([move.train, move.what])
        return answer


def row_refusal(row, told):
    """None, or what is answered if the moves told are too many, or more than the row that can be made of them."""
    if len(told) % 2 != 0 or len(told) > 2 * MOST_MOVES:
        return [-1]
    if 2 * len(row.moves) < len(told):
        return [-3, len(row.moves)]
    return None


class Source:
    """Gives out a list's numbers, one behind another, and leaves the list as it is."""

    def __init__(self, supply):
        self.supply = supply
        self.given = 0

    def is_used_up(self):
        return self.given == len(self.supply)

    def take(self, how_many):
        start = self.given
        self.given = start + how_many
        return self.supply[start:self.given]

    def take_row(self):
        return self.take(self.take(1)[0])


def answer_next(yard, source):
    call = source.take(1)[0]
    if call == 0:
        return yard.read(source.take_row())
    if call == 1:
        told = source.take(3)
        return yard.place(told[0], told[1], told[2])
    if call == 2:
        told = source.take(2)
        return yard.takes(told[0], told[1])
    if call == 3:
        told = source.take(2)
        return yard.ready(told[0], told[1])
    if call == 4:
        return yard.times(source.take_row())
    if call == 5:
        number = source.take(1)[0]
        return yard.slack(number, source.take_row())
    if call == 6:
        return yard.chain(source.take_row())
    if call == 7:
        told = source.take(4)
        return yard.best(told[:3], told[3])
    raise NoSuchCall(f"there is no call {call}")


def answers(calls):
    """Of each call on one new yard: how many numbers are answered, then these."""
    yard = Yard()
    source = Source(calls)
    told = []
    while not source.is_used_up():
        answer = answer_next(yard, source)
        told.append(len(answer))
        told.extend(answer)
    return told
