"""Lists of moves: which the calls times, slack and chain take, and which move is the first that can't be made."""

import unittest

from tests.helper import LARGEST, LINE, lines, place, read, run


class Moves(unittest.TestCase):
    def told(self, numbers, *places):
        """What is answered first (and behind it, if that's a refusal): the same for all three calls."""
        count = [len(numbers)]
        answered = run(LINE, *places, [4] + count + numbers, [5, 0] + count + numbers, [6] + count + numbers)
        if answered[-3][0] >= 0:
            self.assertEqual(len(answered[-3]), 1 + len(numbers))
            self.assertGreaterEqual(answered[-2][0], 0 if numbers else -4)
            self.assertGreaterEqual(answered[-1][0], 0)
            return "made"
        self.assertEqual(answered[-2], answered[-3])
        self.assertEqual(answered[-1], answered[-3])
        return answered[-3]

    def check(self, asked, moves, *places):
        self.assertEqual(self.told([number for move in moves for number in move], *places), asked, moves)

    def made(self, moves, *places):
        self.check("made", moves, *places)

    def stopped(self, number, moves, *places):
        self.check([-3, number], moves, *places)

    def test_none_at_all(self):
        self.made([])
        self.made([], place(0, 0, 0))

    def test_64_moves_and_65(self):
        self.made([(0, 0)] * 64, place(0, 0, 0))
        self.check([-1], [(0, 0)] * 65, place(0, 0, 0))
        self.check([-1], [(0, 0)] * 100, place(0, 0, 0))
        self.made([(number % 3, 0) for number in range(64)], place(0, 0, 0), place(1, 1, 0), place(2, 3, 1))

    def test_too_many_is_told_before_one_that_cannot_be_made(self):
        self.check([-1], [(0, 0)] * 65)
        self.check([-1], [(9, 9)] * 100)
        self.stopped(0, [(0, 0)] * 64)
        self.stopped(63, [(0, 0)] * 63 + [(1, 0)], place(0, 0, 0))
        self.check([-1], [(0, 0)] * 64 + [(1, 0)], place(0, 0, 0))

    def test_an_odd_number_of_numbers(self):
        for numbers in ([0], [0, 0, 0], [3], [0, 9, 0], [0] * 63, [0] * 127, [0] * 129, [0] * 199):
            self.assertEqual(self.told(numbers, place(0, 0, 0)), [-1], numbers)

    def test_no_such_train(self):
        for train in (3, 4, LARGEST):
            self.stopped(0, [(train, 0)], place(0, 0, 0), place(1, 1, 0), place(2, 2, 0))

    def test_a_train_that_is_not_there(self):
        for what in (0, 1, 2, 5):
            self.stopped(0, [(1, what)], place(0, 0, 0))
            self.stopped(0, [(0, what)])
        self.stopped(1, [(0, 0), (2, 0)], place(0, 0, 0))

    def test_a_yard_without_sections(self):
        self.assertEqual(run([4, 0], [4, 2, 0, 0], [5, 0, 2, 0, 0], [6, 2, 0, 0]), [[0], [-3, 0], [-3, 0], [-3, 0]])

    def test_it_turns_anywhere(self):
        for section in range(4):
            for end in (0, 1):
                self.made([(2, 0), (2, 0), (2, 0)], place(2, section, end))

    def test_it_leaves_at_a_border(self):
        self.made([(0, 1)], place(0, 0, 0))
        self.made([(0, 1)], place(0, 3, 1))
        self.made([(0, 0), (0, 1)], place(0, 0, 1))

    def test_it_does_not_leave_elsewhere(self):
        for section, end in ((0, 1), (1, 0), (1, 1), (2, 0), (2, 1), (3, 0)):
            self.stopped(0, [(0, 1)], place(0, section, end))
        self.stopped(1, [(0, 0), (0, 1)], place(0, 0, 0))

    def test_it_does_not_leave_where_the_track_ends(self):
        told = run(read(lines("plain A")), place(0, 0, 0), [4, 2, 0, 1], [4, 4, 0, 0, 0, 1])
        self.assertEqual(told[2:], [[-3, 0], [-3, 1]])

    def test_a_train_that_has_left_is_not_there(self):
        for what in (0, 1, 2):
            self.stopped(1, [(0, 1), (0, what)], place(0, 0, 0))
        self.made([(0, 1), (1, 0)], place(0, 0, 0), place(1, 1, 0))

    def test_a_route(self):
        self.made([(0, 2)], place(0, 0, 1))
        self.made([(0, 2), (0, 3), (0, 4), (0, 0), (0, 5), (0, 1)], place(0, 0, 1))
        self.made([(0, 2), (0, 3), (0, 4), (0, 1)], place(0, 0, 1))

    def test_where_it_heads_behind_a_route(self):
        self.stopped(1, [(0, 5), (0, 2)], place(0, 3, 0))
        self.made([(0, 5), (0, 0), (0, 2)], place(0, 3, 0))

    def test_a_route_that_is_not_there(self):
        for what in (6, 7, 66, 1000, LARGEST):
            for section, end in ((0, 1), (1, 1), (2, 1), (3, 0), (3, 1)):
                self.stopped(0, [(0, what)], place(0, section, end))

    def test_a_route_that_begins_at_another_signal(self):
        for section, end, own in ((0, 1, 2), (1, 1, 3), (2, 1, 4), (3, 0, 5)):
            for what in (2, 3, 4, 5):
                if what == own:
                    self.made([(1, what)], place(1, section, end))
                else:
                    self.stopped(0, [(1, what)], place(1, section, end))

    def test_a_route_that_begins_at_the_other_end_of_its_section(self):
        for section, end, what in ((0, 0, 2), (1, 0, 3), (2, 0, 4), (3, 1, 5)):
            self.stopped(0, [(0, what)], place(0, section, end))
            self.made([(0, 0), (0, what)], place(0, section, end))
            self.stopped(2, [(0, 0), (0, 0), (0, what)], place(0, section, end))

    def test_another_train_in_the_first_a_middle_or_the_last_section(self):
        self.made([(0, 5)], place(0, 3, 0))
        for section in (2, 1, 0):
            for end in (0, 1):
                self.stopped(0, [(0, 5)], place(0, 3, 0), place(2, section, end))
                self.stopped(0, [(2, 5)], place(2, 3, 0), place(1, section, end))

    def test_a_section_that_another_train_has_left_earlier_in_the_row(self):
        self.made([(1, 1), (0, 5)], place(0, 3, 0), place(1, 0, 0))
        self.stopped(0, [(0, 5), (1, 1)], place(0, 3, 0), place(1, 0, 0))
        self.made([(1, 3), (0, 2)], place(0, 0, 1), place(1, 1, 1))
        self.stopped(0, [(0, 2), (1, 3)], place(0, 0, 1), place(1, 1, 1))

    def test_a_section_that_another_train_has_come_into_earlier_in_the_row(self):
        self.stopped(1, [(1, 2), (0, 5)], place(0, 3, 0), place(1, 0, 1))
        self.made([(1, 2), (1, 3), (1, 0)], place(0, 3, 0), place(1, 0, 1))
        self.stopped(2, [(1, 2), (1, 3), (1, 4)], place(0, 3, 0), place(1, 0, 1))

    def test_a_section_that_another_train_has_only_gone_through(self):
        plan = read(lines("plain A", "cross X", "plain B", "plain C", "plain D", "join A.1 X.0", "join X.1 B.0",
                          "join C.1 X.2", "join X.3 D.0", "signal A.1", "signal C.1"))
        told = run(plan, place(0, 0, 1), place(1, 3, 1), [4, 4, 0, 2, 1, 3], [4, 4, 1, 3, 0, 2])
        self.assertEqual([answer[0] < 0 for answer in told], [False] * 5)

    def test_large_numbers(self):
        for move in ((LARGEST, 0), (0, LARGEST), (LARGEST, LARGEST), (LARGEST, 2), (0, LARGEST - 1), (3, LARGEST)):
            self.stopped(0, [move], place(0, 0, 1))
            self.stopped(1, [(0, 0), move], place(0, 0, 1))

    def test_the_first_of_two_that_cannot_be_made(self):
        self.stopped(1, [(0, 0), (0, 2), (1, 0)], place(0, 0, 1))
        self.stopped(1, [(0, 0), (1, 0), (0, 2)], place(0, 0, 1))
        self.stopped(0, [(3, 0), (0, 9)], place(0, 0, 1))
        self.stopped(2, [(0, 2), (0, 3), (0, 3), (0, 4)], place(0, 0, 1))


if __name__ == "__main__":
    unittest.main()
