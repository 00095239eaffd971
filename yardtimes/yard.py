"""The calls on one yard, and what is answered to them."""

from yardtimes.plan import Plan
from yardtimes.reading import take_text
from yardtimes.routes import routes_of

MOST_BYTES = 1024
MOST_ROUTES = 64
LAST_TRAIN = 2
LONGEST_TIME = 1000
LATEST_READY = 1000000


class NoSuchCall(ValueError):
    """A call's number that tells none of the calls."""


class Yard:
    """Each call's method answers a list: its number and what is told behind it, or a refusal."""

    def __init__(self):
        self.begin(Plan(), [])

    def begin(self, plan, routes):
        self.plan = plan
        self.routes = routes
        # Of each train None, or the end for which it heads in the section where it stands.
        self.stands = [None, None, None]
        self.section_times = [1 for kind in plan.kinds]
        self.ready_times = [0, 0, 0]

    def read(self, text):
        if len(text) > MOST_BYTES:
            return [-2]
        plan = Plan()
        fault = take_text(plan, text)
        if fault is not None:
            return [-6, fault[0], fault[1]]
        routes = routes_of(plan)
        if len(routes) > MOST_ROUTES:
            return [-9]
        self.begin(plan, routes)
        return [len(plan.kinds)]

    def place(self, train, section, end):
        if train > LAST_TRAIN:
            return [-1]
        if not self.plan.has_end(section, end) or not self.plan.is_plain(section):
            return [-4]
        if self.holds_another(section, train):
            return [-5]
        self.stands[train] = (section, end)
        return [0]

    def holds_another(self, section, train):
        for other, stand in enumerate(self.stands):
            if other != train and stand is not None and stand[0] == section:
                return True
        return False

    def takes(self, section, time):
        if not 1 <= time <= LONGEST_TIME:
            return [-1]
        if section >= len(self.section_times):
            return [-4]
        self.section_times[section] = time
        return [0]

    def ready(self, train, time):
        if train > LAST_TRAIN or time > LATEST_READY:
            return [-1]
        self.ready_times[train] = time
        return [0]


class Source:
    """Gives out a list's numbers, one behind another, and leaves the list as it is."""

    def __init__(self, supply):
        self.supply = supply
        self.given = 0

    def is_used_up(self):
        return self.given == len(self.supply)

    def take(self, how_many):
        start = self.given
        self.given = start + how_many
        return self.supply[start:self.given]

    def take_row(self):
        return self.take(self.take(1)[0])


def answer_next(yard, source):
    call = source.take(1)[0]
    if call == 0:
        return yard.read(source.take_row())
    if call == 1:
        told = source.take(3)
        return yard.place(told[0], told[1], told[2])
    if call == 2:
        told = source.take(2)
        return yard.takes(told[0], told[1])
    if call == 3:
        told = source.take(2)
        return yard.ready(told[0], told[1])
    raise NoSuchCall(f"there is no call {call}")


def answers(calls):
    """Of each call on one new yard: how many numbers are answered, then these."""
    yard = Yard()
    source = Source(calls)
    told = []
    while not source.is_used_up():
        answer = answer_next(yard, source)
        told.append(len(answer))
        told.extend(answer)
    return told
