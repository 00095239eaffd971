"""Routes: which there are, and how they are numbered."""

import itertools
import random
import unittest

from tests.helper import diamonds, joined_at_random, lines
from yardtimes.plan import Plan
from yardtimes.reading import take_text
from yardtimes.routes import routes_of


def plan_of(told):
    plan = Plan()
    fault = take_text(plan, list(lines(*told).encode()))
    if fault is not None:
        raise AssertionError(f"no plan: {fault}")
    return plan


def found(*told):
    return [(route.start, route.sections, route.heading) for route in routes_of(plan_of(told))]


class Routes(unittest.TestCase):
    def test_none_without_a_signal(self):
        self.assertEqual(found(), [])
        self.assertEqual(found("plain A", "plain B", "join A.1 B.0", "border A.0"), [])

    def test_to_where_nothing_is_joined(self):
        self.assertEqual(found("plain A", "plain B", "join A.1 B.0", "signal A.1"), [((0, 1), [1], 1)])
        self.assertEqual(found("plain A", "plain B", "join A.1 B.1", "signal A.1"), [((0, 1), [1], 0)])

    def test_to_a_border(self):
        self.assertEqual(found("plain A", "plain B", "join A.0 B.0", "border B.1", "signal A.0"), [((0, 0), [1], 1)])

    def test_to_the_first_signal_alone(self):
        told = ("plain A", "plain B", "plain C", "plain D", "join A.1 B.0", "join B.1 C.0", "join C.1 D.0")
        self.assertEqual(found(*told, "signal A.1"), [((0, 1), [1, 2, 3], 1)])
        self.assertEqual(found(*told, "signal A.1", "signal C.1"), [((0, 1), [1, 2], 1), ((2, 1), [3], 1)])

    def test_a_signal_the_other_way_stops_no_train(self):
        told = ("plain A", "plain B", "plain C", "join A.1 B.0", "join B.1 C.0", "signal A.1", "signal B.0")
        self.assertEqual(found(*told), [((0, 1), [1, 2], 1), ((1, 0), [0], 0)])

    def test_signals_are_numbered_by_their_ends_whatever_the_order_of_lines(self):
        told = ("plain B", "plain A", "join B.1 A.0", "join A.1 B.0")
        signals = ("signal A.1", "signal B.1", "signal A.0", "signal B.0")
        asked = [((0, 0), [1], 0), ((0, 1), [1], 1), ((1, 0), [0], 0), ((1, 1), [0], 1)]
        for order in itertools.permutations(signals):
            self.assertEqual(found(*told, *order), asked)

    def test_where_they_part_the_lower_end_comes_first(self):
        told = ("plain A", "point P", "point Q", "plain B", "plain C", "plain D", "join Q.2 D.0", "join Q.1 C.1",
                "join P.2 B.0", "join P.1 Q.0", "join A.1 P.0", "signal A.1")
        self.assertEqual(found(*told), [((0, 1), [1, 2, 4], 0), ((0, 1), [1, 2, 5], 1), ((0, 1), [1, 3], 1)])

    def test_a_point_from_its_other_ends(self):
        told = ("plain A", "point P", "plain B", "plain C", "join P.0 A.0", "join P.1 B.0", "join P.2 C.0",
                "signal B.0", "signal C.0")
        self.assertEqual(found(*told), [((2, 0), [1, 0], 1), ((3, 0), [1, 0], 1)])

    def test_a_cross_goes_straight_on(self):
        told = ("cross X", "plain A", "plain B", "plain C", "plain D", "join X.0 A.0", "join X.1 B.0", "join X.2 C.0",
                "join X.3 D.0", "signal A.0", "signal B.0", "signal C.0", "signal D.0")
        self.assertEqual(found(*told), [((1, 0), [0, 2], 1), ((2, 0), [0, 1], 1), ((3, 0), [0, 4], 1),
                                        ((4, 0), [0, 3], 1)])

    def test_a_plain_section_between_is_no_stop_if_it_is_joined_further(self):
        told = ("plain A", "plain B", "point P", "join A.1 B.0", "join B.1 P.1", "signal A.1")
        self.assertEqual(found(*told), [])

    def test_none_comes_through_its_signals_section(self):
        self.assertEqual(found("plain A", "join A.0 A.1", "signal A.0", "signal A.1"), [])
        self.assertEqual(found("plain A", "plain B", "join A.1 B.0", "join B.1 A.0", "signal A.1"), [])

    def test_none_comes_through_a_section_twice(self):
        self.assertEqual(found("plain A", "point P", "join A.1 P.0", "join P.1 P.2", "signal A.1"), [])
        told = ("plain A", "cross X", "plain B", "join A.1 X.0", "join X.1 X.2", "join X.3 B.0", "signal A.1")
        self.assertEqual(found(*told), [])

    def test_one_of_two_ways_may_be_none(self):
        told = ("plain A", "point P", "plain B", "join A.1 P.0", "join P.2 B.0", "signal A.1")
        self.assertEqual(found(*told), [((0, 1), [1, 2], 1)])

    def test_two_ways_through_the_same_sections_are_two_routes(self):
        self.assertEqual(found(*diamonds(1), "signal A.1"), [((0, 1), [2, 3, 1], 1)] * 2)
        self.assertEqual(len(found(*diamonds(6), "signal A.1")), 64)


# What follows finds the routes another way: of all rows of ends that a train could leave by, those that are a route.

THROUGH = {"plain": ("01", "10"), "point": ("01", "02", "10", "20"), "cross": ("01", "10", "23", "32")}


def walked(plan, entered, behind):
    """Each row of (section, end it leaves by), as a recursion over the pairs of ends."""
    section, end = entered
    if section in behind:
        return []
    rows = []
    for pair in THROUGH[plan.kinds[section]]:
        if int(pair[0]) != end:
            continue
        leaving = (section, int(pair[1]))
        onward = plan.joined.get(leaving)
        plain = plan.kinds[section] == "plain"
        if plain and (leaving in plan.signals or leaving in plan.borders or onward is None):
            rows.append([leaving])
        elif onward is not None:
            rows += [[leaving] + row for row in walked(plan, onward, behind + [section])]
    return rows


def expected(plan):
    told = []
    for start in sorted(plan.signals):
        rows = sorted(walked(plan, plan.joined[start], [start[0]]), key=lambda row: [leaving[1] for leaving in row])
        told += [(start, [leaving[0] for leaving in row], row[-1][1]) for row in rows]
    return told


def some_plan(source):
    kinds = [source.choice(("plain", "plain", "point", "cross")) for number in range(source.randint(1, 16))]
    told, signals = joined_at_random(source, kinds, 0.85)
    return told + source.sample(signals, min(len(signals), source.randint(0, 12)))


class AgainstAnotherWay(unittest.TestCase):
    def test_many_plans(self):
        source = random.Random(1)
        most = 0
        for number in range(1500):
            told = some_plan(source)
            asked = expected(plan_of(told))
            most = max(most, len(asked))
            self.assertEqual(found(*told), asked, told)
        self.assertGreater(most, 10)


if __name__ == "__main__":
    unittest.main()
