"""times, slack, chain and best among the other calls: what only asks, and what is refused, changes nothing."""

import random
import unittest

from tests.helper import LARGEST, LINE, best, chain, place, read, ready, run, slack, takes, times
from tests.test_trains import state
from yardtimes.yard import Yard, answers

ASKED = ([0, 2, 0, 3, 1, 1], [], [0, 2, 0], [0, 2, 0, 9], [0, 0] * 65, [LARGEST, LARGEST])
WANTED = (([5, 1, 0], 5), ([0, 0, 0], 0), ([6, 0, 0], 5), ([0, 0, 0], 6), ([0, 0, 2], 5), ([LARGEST] * 3, LARGEST))

# Each kind of asking call, answered and refused.
ASKING = ([times((0, 2), (0, 3)), times(), times((0, 9)), times((1, 1)), [4, 1, 0], times(*[(0, 0)] * 65)]
          + [slack(0, (0, 2)), slack(1, (0, 2)), slack(0, (2, 0)), [5, 0, 3, 0, 0, 0], chain((0, 2), (0, 3)), chain()]
          + [chain((0, 1)), [6, 1, 7], best(5, 0, 0, 5), best(0, 0, 0, 0), best(9, 0, 0, 0), best(0, 0, 2, 3)])


class NoChange(list):
    """A list that can be read alone."""

    def refuse(self, *told):
        raise AssertionError("what was handed in was changed")

    append = extend = insert = pop = remove = clear = reverse = sort = refuse
    __setitem__ = __delitem__ = __iadd__ = __imul__ = refuse


def filled_yard():
    yard = Yard()
    yard.read(LINE[2:])
    yard.place(0, 0, 1)
    yard.place(1, 3, 1)
    yard.takes(2, 7)
    yard.ready(1, 9)
    return yard


def some_call(source):
    return source.choice((place(source.randint(0, 3), source.randint(0, 4), source.randint(0, 2)),
                          place(source.randint(0, 2), source.randint(0, 3), source.randint(0, 1)),
                          takes(source.randint(0, 4), source.randint(0, 9)), ready(source.randint(0, 3), source.randint(0, 9)),
                          LINE, read("plain A\n\n")))


class Asking(unittest.TestCase):
    def test_the_yard_is_as_it_was(self):
        for told in ASKED:
            yard = filled_yard()
            before = state(yard)
            kept = list(told)
            yard.times(told)
            yard.slack(0, told)
            yard.slack(LARGEST, told)
            yard.chain(told)
            self.assertEqual(state(yard), before)
            self.assertEqual(told, kept)
        for wanted, most in WANTED:
            yard = filled_yard()
            before = state(yard)
            yard.best(wanted, most)
            self.assertEqual(state(yard), before)

    def test_the_plan_and_its_routes_are_as_they_were(self):
        yard = filled_yard()
        yard.times([0, 2, 0, 3])
        yard.chain([0, 2, 0, 3])
        yard.best([5, 1, 0], 5)
        new = filled_yard()
        self.assertEqual([(route.start, route.sections, route.heading) for route in yard.routes],
                         [(route.start, route.sections, route.heading) for route in new.routes])
        self.assertEqual((yard.plan.kinds, yard.plan.joined, yard.plan.borders, yard.plan.signals),
                         (new.plan.kinds, new.plan.joined, new.plan.borders, new.plan.signals))

    def test_the_other_calls_answer_the_same_with_asking_calls_between(self):
        source = random.Random(10)
        for number in range(300):
            calls = [LINE] + [some_call(source) for call in range(12)] + [times((0, 0)), best(1, 0, 0, 4), times((1, 0))]
            alone = run(*calls)
            mixed, own = [], []
            for call in calls:
                mixed += source.sample(ASKING, source.randint(0, 3))
                own.append(len(mixed))
                mixed.append(call)
            told = run(*mixed)
            self.assertEqual([told[place_of] for place_of in own], alone)

    def test_the_same_asked_twice_is_answered_the_same(self):
        for call in ASKING:
            told = run(LINE, place(0, 0, 1), call, call, *ASKING, call)
            self.assertEqual([told[3], told[-1]], [told[2], told[2]])

    def test_refused_calls_leave_what_is_asked_as_it_was(self):
        asking = times((0, 2), (1, 1), (0, 3), (0, 4))
        told = run(LINE, place(0, 0, 1), place(1, 3, 1), takes(3, 8), ready(0, 2), asking, read("x"), place(3, 0, 0),
                   place(0, 4, 0), place(0, 3, 0), takes(3, 0), takes(4, 1), ready(3, 5), ready(0, 1000001), asking)
        self.assertEqual(told[5], [16, 2, 3, 0, 8, 3, 4, 8, 16])
        self.assertEqual(told[14], told[5])
        self.assertEqual(told[6:14], [[-6, 0, 1], [-1], [-4], [-5], [-1], [-4], [-1], [-1]])

    def test_what_is_asked_follows_what_was_told(self):
        told = run(LINE, place(0, 0, 1), times((0, 2)), takes(1, 5), times((0, 2)), ready(0, 3), times((0, 2)),
                   best(3, 0, 0, 1), place(0, 1, 1), times((0, 2)), best(3, 0, 0, 1), read(""), times((0, 0)), times(),
                   chain(), slack(0), best(0, 0, 0, 5), best(1, 1, 1, 5), best(2, 0, 0, 5))
        self.assertEqual(told[2:], [[1, 0, 1], [0], [5, 0, 5], [0], [8, 3, 8], [8, 1, 0, 2], [0], [-3, 0], [0, 0], [0],
                                    [-3, 0], [0], [0], [-4], [0, 0], [0, 0], [-1]])


class Handed(unittest.TestCase):
    def test_each_answer_has_its_count_before_it(self):
        calls = LINE + place(0, 0, 1) + times((0, 2), (0, 3)) + slack(1, (0, 2), (0, 3)) + chain((0, 2), (0, 3))
        calls += best(4, 0, 0, 5) + times((0, 3)) + best(0, 4, 0, 5) + chain() + slack(0) + [4, 1, 5]
        self.assertEqual(answers(calls), [1, 4, 1, 0, 5, 2, 0, 1, 1, 2, 1, 0, 3, 2, 0, 1, 6, 2, 2, 0, 2, 0, 3, 2, -3, 0,
                                          1, -3, 1, 0, 1, -4, 1, -1])

    def test_it_is_not_changed_for_a_while_either(self):
        calls = LINE + place(0, 0, 1) + [number for call in ASKING for number in call]
        self.assertEqual(answers(NoChange(calls)), answers(calls))

    def test_nothing_is_kept_from_one_time_to_the_next(self):
        calls = LINE + place(0, 0, 1) + best(5, 0, 0, 5) + times((0, 2))
        first = answers(calls)
        self.assertEqual(answers(times((0, 2)) + best(1, 1, 1, 5) + best(5, 0, 0, 5)), [2, -3, 0, 2, 0, 0, 1, -1])
        self.assertEqual(answers(calls), first)

    def test_many_calls(self):
        told = run(LINE, place(0, 0, 1), place(1, 1, 1), place(2, 3, 1), *[best(4, 5, 1, 5)] * 300)
        self.assertEqual(told[4:], [[3, 5, 1, 3, 0, 2, 2, 1, 1, 4, 0, 3]] * 300)

    def test_long_rows_of_many_calls(self):
        moves = [(number % 3, 0) for number in range(64)]
        told = run(LINE, place(0, 0, 1), place(1, 1, 1), place(2, 3, 1), *[slack(number, *moves) for number in range(64)])
        self.assertEqual(told[4:], [[1 if number % 3 else 0] for number in range(64)])


if __name__ == "__main__":
    unittest.main()
