"""Moves of trains: which can be made, and what they do to the yard."""

TURN = 0
LEAVE = 1
FIRST_ROUTE = 2


class Move:
    """A move that can be made; all its times count from when it begins."""

    def __init__(self, train, what, stands, through, frees, lasts):
        self.train = train
        self.what = what
        # Of each train behind the move: None, or the end for which it heads.
        self.stands = stands
        # The sections of its route, none if it goes by none.
        self.through = through
        # Of each section that the train leaves: when it is free of it.
        self.frees = frees
        self.lasts = lasts


def move_of(yard, stands, train, what):
    """The train's move from where the trains stand, or None if it can't be made."""
    if train >= len(stands) or stands[train] is None:
        return None
    if what == TURN:
        return turn_of(yard, stands, train)
    if what == LEAVE:
        return leave_of(yard, stands, train)
    return ride_of(yard, stands, train, what)


def turn_of(yard, stands, train):
    section = stands[train][0]
    turned = (section, 1 - stands[train][1])
    return Move(train, TURN, with_stand(stands, train, turned), [], {}, yard.section_times[section])


def leave_of(yard, stands, train):
    if stands[train] not in yard.plan.borders:
        return None
    section = stands[train][0]
    time = yard.section_times[section]
    return Move(train, LEAVE, with_stand(stands, train, None), [], {section: time}, time)


def ride_of(yard, stands, train, what):
    """The move by the route that the number tells, or None."""
    if what - FIRST_ROUTE >= len(yard.routes):
        return None
    route = yard.routes[what - FIRST_ROUTE]
    if route.start != stands[train] or is_one_held(stands, route.sections):
        return None
    frees = {}
    time = 0
    behind = route.start[0]
    for section in route.sections:
        time += yard.section_times[section]
        frees[behind] = time
        behind = section
    return Move(train, what, with_stand(stands, train, (behind, route.heading)), route.sections, frees, time)


def is_one_held(stands, sections):
    """Whether a train is in any of the sections."""
    return any([stand is not None and stand[0] in sections for stand in stands])


def with_stand(stands, train, stand):
    return stands[:train] + (stand,) + stands[train + 1:]
