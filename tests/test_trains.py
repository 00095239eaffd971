"""place, takes, ready, and what read and refusals leave of what they told."""

import unittest

from tests.helper import LARGEST, diamonds, lines, place, read, ready, run, takes
from yardtimes.yard import Yard

PLAN = lines("plain A", "point B", "cross C", "plain D", "plain E", "join A.1 B.0", "signal A.1", "border A.0")

# One text for each refusal of read.
REFUSED = ("x" * 1025, lines("plain A", "plain A"), lines(*diamonds(7), "signal A.1"))


def bytes_of(text):
    return list(text.encode())


def state(yard):
    return (yard.plan, yard.routes, list(yard.stands), list(yard.section_times), list(yard.ready_times))


def filled_yard():
    yard = Yard()
    yard.read(bytes_of(PLAN))
    yard.place(0, 0, 1)
    yard.place(2, 3, 0)
    yard.takes(1, 7)
    yard.ready(1, 9)
    return yard


class Place(unittest.TestCase):
    def behind_plan(self, *calls):
        told = run(read(PLAN), *calls)
        self.assertEqual(told[0], [5])
        return [answer for numbers in told[1:] for answer in numbers]

    def test_each_train_and_both_ends(self):
        self.assertEqual(self.behind_plan(place(0, 0, 0), place(1, 3, 1), place(2, 4, 0)), [0, 0, 0])
        self.assertEqual(self.behind_plan(place(2, 4, 1), place(1, 3, 0), place(0, 0, 1)), [0, 0, 0])

    def test_where_it_stands(self):
        yard = Yard()
        yard.read(bytes_of(PLAN))
        yard.place(1, 3, 1)
        self.assertEqual(yard.stands, [None, (3, 1), None])

    def test_no_such_train(self):
        self.assertEqual(self.behind_plan(place(3, 0, 0), place(4, 0, 0), place(LARGEST, 0, 0)), [-1, -1, -1])

    def test_no_such_end(self):
        self.assertEqual(self.behind_plan(place(0, 0, 2), place(0, 0, 3), place(0, 4, LARGEST)), [-4, -4, -4])
        self.assertEqual(self.behind_plan(place(0, 5, 0), place(0, 6, 1), place(0, LARGEST, 0)), [-4, -4, -4])
        self.assertEqual(self.behind_plan(place(2, LARGEST, LARGEST)), [-4])

    def test_sections_that_are_not_plain(self):
        self.assertEqual(self.behind_plan(*[place(0, 1, end) for end in range(5)]), [-4] * 5)
        self.assertEqual(self.behind_plan(*[place(0, 2, end) for end in range(5)]), [-4] * 5)

    def test_another_train_is_there(self):
        self.assertEqual(self.behind_plan(place(0, 0, 0), place(1, 0, 0), place(2, 0, 1)), [0, -5, -5])
        self.assertEqual(self.behind_plan(place(2, 3, 0), place(0, 3, 1)), [0, -5])

    def test_placed_again(self):
        self.assertEqual(self.behind_plan(place(0, 0, 0), place(0, 0, 1), place(0, 0, 1)), [0, 0, 0])
        self.assertEqual(self.behind_plan(place(0, 0, 0), place(0, 3, 0), place(1, 0, 0), place(2, 3, 0)),
                         [0, 0, 0, -5])

    def test_a_refused_train_stays_where_it_was(self):
        self.assertEqual(self.behind_plan(place(0, 0, 0), place(1, 3, 0), place(1, 0, 0), place(2, 3, 0)),
                         [0, 0, -5, -5])
        self.assertEqual(self.behind_plan(place(0, 0, 0), place(0, 1, 0), place(1, 0, 0)), [0, -4, -5])

    def test_the_first_of_two_refusals_is_told(self):
        self.assertEqual(self.behind_plan(place(3, 5, 0), place(3, 0, 2), place(LARGEST, LARGEST, LARGEST)),
                         [-1, -1, -1])
        self.assertEqual(self.behind_plan(place(0, 0, 0), place(3, 0, 0), place(1, 0, 2)), [0, -1, -4])


class Takes(unittest.TestCase):
    def test_its_bounds(self):
        told = run(read(PLAN), *[takes(0, time) for time in (0, 1, 2, 999, 1000, 1001, LARGEST)])
        self.assertEqual(told[1:], [[-1], [0], [0], [0], [0], [-1], [-1]])

    def test_sections_of_every_kind(self):
        told = run(read(PLAN), *[takes(section, 5) for section in range(6)], takes(LARGEST, 5))
        self.assertEqual(told[1:], [[0]] * 5 + [[-4], [-4]])

    def test_the_first_of_two_refusals_is_told(self):
        told = run(read(PLAN), takes(5, 0), takes(5, 1001), takes(5, 1000), takes(LARGEST, LARGEST))
        self.assertEqual(told[1:], [[-1], [-1], [-4], [-1]])

    def test_what_is_kept(self):
        yard = Yard()
        yard.read(bytes_of(PLAN))
        self.assertEqual(yard.section_times, [1, 1, 1, 1, 1])
        yard.takes(1, 1000)
        yard.takes(4, 3)
        yard.takes(4, 2)
        self.assertEqual(yard.section_times, [1, 1000, 1, 1, 2])


class Ready(unittest.TestCase):
    def test_its_bounds(self):
        for train, asked in ((0, [0]), (1, [0]), (2, [0]), (3, [-1]), (LARGEST, [-1])):
            self.assertEqual(run(ready(train, 0), ready(train, 1000000)), [asked, asked])
            self.assertEqual(run(ready(train, 1000001), ready(train, LARGEST)), [[-1], [-1]])

    def test_a_train_that_is_not_there_too(self):
        self.assertEqual(run(read(PLAN), ready(1, 5), place(1, 0, 0), ready(1, 6))[1:], [[0]] * 3)

    def test_what_is_kept(self):
        yard = Yard()
        self.assertEqual(yard.ready_times, [0, 0, 0])
        yard.ready(2, 1000000)
        yard.ready(0, 4)
        yard.ready(0, 3)
        self.assertEqual(yard.ready_times, [3, 0, 1000000])


class ReadAgain(unittest.TestCase):
    def test_all_is_as_new(self):
        yard = filled_yard()
        self.assertEqual(yard.read(bytes_of(lines("plain A", "plain B"))), [2])
        self.assertEqual(state(yard)[1:], ([], [None, None, None], [1, 1], [0, 0, 0]))

    def test_the_same_plan_again(self):
        yard = filled_yard()
        yard.read(bytes_of(PLAN))
        self.assertEqual(yard.stands, [None, None, None])
        self.assertEqual(yard.section_times, [1, 1, 1, 1, 1])
        self.assertEqual(yard.ready_times, [0, 0, 0])

    def test_it_is_seen_by_the_calls_behind_it(self):
        told = run(read(PLAN), place(0, 0, 0), place(1, 0, 0), read(PLAN), place(1, 0, 0), place(0, 3, 0),
                   read(lines("point A")), place(0, 0, 0), takes(0, 4), takes(1, 4),
                   read(""), takes(0, 4), ready(0, 4))
        self.assertEqual(told, [[5], [0], [-5], [5], [0], [0], [1], [-4], [0], [-4], [0], [-4], [0]])


class Refused(unittest.TestCase):
    def test_a_refused_read_leaves_all_as_it_was(self):
        for text, asked in zip(REFUSED, ([-2], [-6, 1, 2], [-9])):
            yard = filled_yard()
            before = state(yard)
            self.assertEqual(yard.read(bytes_of(text)), asked)
            self.assertEqual(state(yard), before)
            self.assertIs(yard.plan, before[0])

    def test_it_is_seen_by_the_calls_behind_it(self):
        for text, asked in zip(REFUSED, ([-2], [-6, 1, 2], [-9])):
            told = run(read(PLAN), place(0, 0, 0), takes(4, 9), ready(2, 8), read(text),
                       place(1, 0, 0), place(1, 1, 0), place(1, 4, 1), takes(4, 3), takes(5, 3), ready(2, 7))
            self.assertEqual(told, [[5], [0], [0], [0], asked, [-5], [-4], [0], [0], [-4], [0]])

    def test_the_plan_in_it_is_as_it_was(self):
        yard = filled_yard()
        yard.read(bytes_of(lines("plain A", "join A.0 A.1", "cross B", "cross B")))
        self.assertEqual(yard.plan.kinds, ["plain", "point", "cross", "plain", "plain"])
        self.assertEqual(yard.plan.joined, {(0, 1): (1, 0), (1, 0): (0, 1)})

    def test_other_refusals_change_nothing(self):
        yard = filled_yard()
        before = state(yard)
        self.assertEqual([yard.place(3, 0, 0), yard.place(0, 1, 0), yard.place(0, 0, 2), yard.place(0, 5, 0),
                          yard.place(1, 0, 0), yard.place(2, 0, 0)], [[-1], [-4], [-4], [-4], [-5], [-5]])
        self.assertEqual([yard.takes(0, 0), yard.takes(0, 1001), yard.takes(5, 1)], [[-1], [-1], [-4]])
        self.assertEqual([yard.ready(3, 1), yard.ready(0, 1000001)], [[-1], [-1]])
        self.assertEqual(state(yard), before)


if __name__ == "__main__":
    unittest.main()
