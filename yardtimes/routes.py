"""The routes of a plan, in the order of their numbers."""


class Route:
    """From a signal's end through sections, to stand in the last of them, heading for one of its ends."""

    def __init__(self, start, sections, heading):
        self.start = start
        self.sections = sections
        self.heading = heading


def routes_of(plan):
    routes = []
    for start in sorted(plan.signals):
        routes.extend(routes_from(plan, start))
    return routes


def routes_from(plan, start):
    """The routes that begin at one signal's end."""
    routes = []
    # A way is the sections come through, the signal's among them, and the end that it leaves the last by.
    ways = ways_on(plan, (start[0],), start)
    while ways:
        way = ways.pop()
        sections = way[0]
        leaving = way[1]
        if plan.may_stop(leaving):
            routes.append(Route(start, list(sections[1:]), leaving[1]))
        else:
            ways.extend(ways_on(plan, sections, leaving))
    return routes


def ways_on(plan, sections, leaving):
    """The ways one section further, by its highest end first, as the last of the list is followed first."""
    entered = plan.joined.get(leaving)
    if entered is None or entered[0] in sections:
        return []
    further = sections + (entered[0],)
    return [(further, (entered[0], digit)) for digit in reversed(plan.exits(entered))]
