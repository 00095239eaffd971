"""times, slack, chain: when each move of a row begins and ends, how late it may begin, and what holds all up."""

import unittest

from tests.helper import LARGEST, LINE, chain, lines, place, read, ready, run, slack, takes, times

LINE_TAKES = (takes(0, 4), takes(1, 3), takes(2, 2), takes(3, 10))

# Move 2 goes from A through X and Y to B, 3 from C through X to D, 4 from E through Y to F.
CROSSES = read(lines("plain A", "cross X", "cross Y", "plain B", "plain C", "plain D", "plain E", "plain F",
                     "join A.1 X.0", "join X.1 Y.0", "join Y.1 B.0", "join C.1 X.2", "join X.3 D.0", "join E.1 Y.2",
                     "join Y.3 F.0", "signal A.1", "signal C.1", "signal E.1"))
CROSSES_TAKES = (takes(1, 3), takes(2, 5), takes(3, 7), takes(5, 11), takes(7, 13))
THREE = (place(0, 0, 1), place(1, 4, 1), place(2, 6, 1))

# Two tracks come together: move 2 goes from A through P to M, 3 from B through P to M, 4 from M to N. Z lies apart.
JUNCTION = read(lines("plain A", "plain B", "point P", "plain M", "plain N", "plain Z", "join A.1 P.1",
                      "join B.1 P.2", "join P.0 M.0", "join M.1 N.0", "signal A.1", "signal B.1", "signal M.1"))

# Two sections in a ring: move 2 goes from A to B, 3 from B to A.
RING = read(lines("plain A", "plain B", "join A.1 B.0", "join B.1 A.0", "signal A.1", "signal B.1"))


class Times(unittest.TestCase):
    def check(self, done, spans, moves, *calls):
        """Spans are of each move when it begins and when it ends."""
        asked = [done] + [time for span in spans for time in span]
        self.assertEqual(run(*calls, times(*moves))[-1], asked)

    def test_a_row_of_none(self):
        self.check(0, [], [])
        self.check(0, [], [], LINE, place(0, 0, 1), ready(0, 50), ready(1, 1000000), takes(0, 9))

    def test_a_turn(self):
        self.check(1, [(0, 1)], [(0, 0)], LINE, place(0, 0, 1))
        self.check(7, [(0, 7)], [(0, 0)], LINE, place(0, 0, 1), takes(0, 7), takes(1, 50))

    def test_leaving(self):
        self.check(10, [(0, 10)], [(0, 1)], LINE, *LINE_TAKES, place(0, 3, 1))

    def test_a_route_of_one_section_takes_what_that_takes(self):
        self.check(3, [(0, 3)], [(0, 2)], LINE, *LINE_TAKES, place(0, 0, 1))

    def test_a_route_takes_what_its_sections_take(self):
        self.check(9, [(0, 9)], [(0, 5)], LINE, *LINE_TAKES, place(0, 3, 0))
        self.check(3, [(0, 3)], [(0, 5)], LINE, place(0, 3, 0))

    def test_one_behind_another(self):
        moves = [(0, 2), (0, 3), (0, 4), (0, 1)]
        self.check(25, [(0, 3), (3, 5), (5, 15), (15, 25)], moves, LINE, *LINE_TAKES, place(0, 0, 1))

    def test_a_train_that_turns_and_then_goes(self):
        self.check(19, [(0, 10), (10, 19)], [(2, 0), (2, 5)], LINE, *LINE_TAKES, place(2, 3, 1))

    def test_ready_above_0(self):
        self.check(12, [(5, 8), (8, 10), (10, 12)], [(0, 2), (0, 3), (0, 0)], LINE, *LINE_TAKES, place(0, 0, 1),
                   ready(0, 5))
        self.check(5, [(4, 5), (0, 1)], [(0, 0), (1, 0)], LINE, place(0, 0, 1), place(1, 1, 1), ready(0, 4))

    def test_the_largest_times(self):
        self.check(1003000, [(1000000, 1003000)], [(0, 5)], LINE, *[takes(section, 1000) for section in range(4)],
                   place(0, 3, 0), ready(0, 1000000))

    def test_64_moves(self):
        spans = [(3 * number, 3 * number + 3) for number in range(64)]
        self.check(192, spans, [(1, 0)] * 64, LINE, takes(2, 3), place(1, 2, 0))

    def test_trains_that_need_not_wait(self):
        self.check(3, [(0, 3), (0, 2), (0, 3)], [(0, 0), (1, 0), (2, 2)], LINE, *LINE_TAKES, takes(3, 3), place(0, 3, 0),
                   place(1, 2, 0), place(2, 0, 1))
        self.check(18, [(0, 14), (0, 18)], [(1, 3), (2, 4)], CROSSES, *CROSSES_TAKES, *THREE)

    def test_where_a_train_stood_is_free_when_it_is_in_the_first_section(self):
        self.check(5, [(0, 2), (2, 5)], [(0, 3), (1, 2)], LINE, *LINE_TAKES, place(0, 1, 1), place(1, 0, 1))
        self.check(8, [(0, 5), (5, 8)], [(0, 3), (1, 2)], LINE, *LINE_TAKES, takes(2, 5), place(0, 1, 1), place(1, 0, 1))

    def test_where_a_train_stood_is_free_though_it_goes_on(self):
        plan = read(lines("plain A", "plain B", "plain C", "plain D", "join A.1 B.0", "join B.1 C.0", "join C.1 D.0",
                          "signal A.1", "signal B.1"))
        self.check(12, [(0, 12), (2, 5)], [(0, 3), (1, 2)], plan, *LINE_TAKES, place(0, 1, 1), place(1, 0, 1))

    def test_each_section_but_the_last_is_free_when_the_train_is_in_the_next(self):
        moves = [(0, 2), (1, 3), (2, 4)]
        self.check(33, [(0, 15), (8, 22), (15, 33)], moves, CROSSES, *CROSSES_TAKES, *THREE)

    def test_the_row_tells_who_waits(self):
        self.check(47, [(0, 14), (14, 29), (29, 47)], [(1, 3), (0, 2), (2, 4)], CROSSES, *CROSSES_TAKES, *THREE)
        self.check(33, [(0, 18), (18, 33)], [(2, 4), (0, 2)], CROSSES, *CROSSES_TAKES, *THREE)
        self.check(133, [(100, 118), (118, 133)], [(2, 4), (0, 2)], CROSSES, *CROSSES_TAKES, *THREE, ready(2, 100))

    def test_the_latest_of_all_that_it_waits_for(self):
        calls = (CROSSES, *CROSSES_TAKES, *THREE)
        self.check(33, [(0, 14), (0, 18), (18, 33)], [(1, 3), (2, 4), (0, 2)], *calls)
        self.check(33, [(0, 18), (0, 14), (18, 33)], [(2, 4), (1, 3), (0, 2)], *calls)
        self.check(45, [(0, 14), (0, 18), (30, 45)], [(1, 3), (2, 4), (0, 2)], *calls, ready(0, 30))
        self.check(44, [(15, 29), (0, 18), (29, 44)], [(1, 3), (2, 4), (0, 2)], *calls, ready(1, 15))
        self.check(65, [(0, 50), (0, 14), (50, 65)], [(0, 0), (1, 3), (0, 2)], *calls, place(0, 0, 0), takes(0, 50))
        self.check(29, [(0, 9), (0, 14), (14, 29)], [(0, 0), (1, 3), (0, 2)], *calls, place(0, 0, 0), takes(0, 9))

    def test_the_last_section_is_free_when_the_train_has_gone_on(self):
        calls = (JUNCTION, takes(0, 2), takes(2, 3), takes(3, 5), takes(4, 7), place(0, 0, 1), place(1, 1, 1))
        self.check(23, [(0, 8), (8, 15), (15, 23)], [(0, 2), (0, 4), (1, 3)], *calls)
        self.check(33, [(0, 8), (8, 13), (13, 18), (18, 25), (25, 33)], [(0, 2), (0, 0), (0, 0), (0, 4), (1, 3)], *calls)

    def test_where_a_train_left_is_free_when_the_move_ends(self):
        self.check(13, [(0, 4), (4, 13)], [(1, 1), (0, 5)], LINE, *LINE_TAKES, place(0, 3, 0), place(1, 0, 0))
        self.check(20, [(7, 11), (11, 20)], [(1, 1), (0, 5)], LINE, *LINE_TAKES, place(0, 3, 0), place(1, 0, 0),
                   ready(1, 7))

    def test_a_train_that_comes_back_through_what_it_has_left(self):
        self.check(16, [(0, 9), (9, 13), (13, 16)], [(0, 5), (0, 0), (0, 2)], LINE, *LINE_TAKES, place(0, 3, 0))
        self.check(14, [(0, 3), (3, 7), (7, 10), (10, 14)], [(0, 2), (0, 3), (0, 2), (0, 3)], RING, takes(0, 4),
                   takes(1, 3), place(0, 0, 1))

    def test_a_train_that_comes_back_does_not_wait_for_one_elsewhere(self):
        self.check(100, [(0, 3), (0, 100), (3, 5)], [(0, 2), (1, 0), (0, 3)], LINE, *LINE_TAKES, takes(3, 100),
                   place(0, 0, 1), place(1, 3, 0))

    def test_all_is_done_when_the_last_ends_not_the_last_of_the_row(self):
        self.check(90, [(0, 90), (0, 14)], [(2, 0), (1, 3)], CROSSES, *CROSSES_TAKES, *THREE, takes(6, 90))

    def test_a_section_takes_what_was_told_last(self):
        self.check(6, [(0, 6)], [(0, 0)], LINE, place(0, 0, 0), takes(0, 9), takes(0, 6), takes(0, 0), takes(0, 1001))

    def test_a_train_is_ready_when_was_told_last(self):
        self.check(7, [(6, 7)], [(0, 0)], LINE, place(0, 0, 0), ready(0, 9), ready(0, 6), ready(0, 1000001))

    def test_another_train_in_its_place_keeps_its_own_time(self):
        self.check(9, [(8, 9)], [(1, 0)], LINE, ready(0, 3), ready(1, 8), place(1, 0, 0))
        self.check(4, [(3, 4)], [(0, 0)], LINE, ready(0, 3), ready(1, 8), place(0, 0, 0))

    def test_all_is_as_new_behind_read(self):
        self.check(1, [(0, 1)], [(0, 0)], LINE, takes(0, 9), ready(0, 8), LINE, place(0, 0, 0))

    def test_the_trains_stay_where_they_are(self):
        moves = [(0, 2), (0, 3), (1, 1)]
        told = run(LINE, place(0, 0, 1), place(1, 3, 1), times(*moves), times(*moves), place(2, 1, 0), place(2, 0, 0),
                   place(2, 3, 0), times((1, 0)), times(*moves))
        self.assertEqual(told[3:], [[2, 0, 1, 1, 2, 0, 1]] * 2 + [[0], [-5], [-5], [1, 0, 1], [-3, 0]])

    def test_what_is_refused_leaves_them_too(self):
        told = run(LINE, place(0, 0, 1), times((0, 2), (0, 3), (0, 9)), times((0, 2)), [4, 3, 0, 2, 0], times((0, 2)),
                   times(*[(0, 0)] * 65), times((LARGEST, LARGEST)), times((0, 2)))
        self.assertEqual(told[2:], [[-3, 2], [1, 0, 1], [-1], [1, 0, 1], [-1], [-3, 0], [1, 0, 1]])


class Slack(unittest.TestCase):
    def check(self, asked, moves, *calls):
        told = run(*calls, *[slack(number, *moves) for number in range(len(moves))])
        self.assertEqual(told[len(calls):], [[number] for number in asked])

    def test_one_move(self):
        self.check([0], [(0, 0)], LINE, place(0, 0, 1))
        self.check([0], [(0, 5)], LINE, place(0, 3, 0), ready(0, 77))

    def test_what_holds_all_up_has_none(self):
        self.check([0, 0, 0, 0], [(0, 2), (0, 3), (0, 4), (0, 1)], LINE, *LINE_TAKES, place(0, 0, 1))
        self.check([0, 0, 0], [(1, 3), (0, 2), (2, 4)], CROSSES, *CROSSES_TAKES, *THREE)

    def test_a_move_with_time_to_spare(self):
        self.check([0, 11, 0], [(0, 2), (1, 3), (2, 4)], CROSSES, *CROSSES_TAKES, *THREE)
        self.check([0, 76], [(2, 0), (1, 3)], CROSSES, *CROSSES_TAKES, *THREE, takes(6, 90))

    def test_up_to_its_slack_and_beyond(self):
        calls = (CROSSES, *CROSSES_TAKES, *THREE)
        moves = [(0, 2), (1, 3), (2, 4)]
        # Train 1 begins at 8 and has 11 to spare: ready at 19 it keeps nobody, at 20 all is done later.
        for time, done in ((8, 33), (18, 33), (19, 33), (20, 34), (25, 39)):
            self.assertEqual(run(*calls, ready(1, time), times(*moves))[-1][0], done)

    def test_a_move_for_which_others_wait(self):
        calls = (CROSSES, *CROSSES_TAKES, *THREE, takes(6, 100))
        moves = [(1, 3), (0, 2), (2, 0)]
        self.assertEqual(run(*calls, times(*moves))[-1], [100, 0, 14, 14, 29, 0, 100])
        self.check([71, 71, 0], moves, *calls)
        for time, done in ((71, 100), (72, 101)):
            self.assertEqual(run(*calls, ready(1, time), times(*moves))[-1][0], done)

    def test_a_move_for_which_one_waits_that_waits_longer_for_another(self):
        self.check([4, 0, 0], [(1, 3), (2, 4), (0, 2)], CROSSES, *CROSSES_TAKES, *THREE)

    def test_a_move_for_which_others_wait_through_a_middle_one(self):
        calls = (JUNCTION, takes(0, 2), takes(2, 3), takes(3, 5), takes(4, 7), place(0, 0, 1), place(1, 1, 1))
        self.check([0, 0, 0], [(0, 2), (0, 4), (1, 3)], *calls)
        self.check([5, 5, 5, 0], [(0, 2), (0, 4), (1, 3), (2, 0)], *calls, place(2, 5, 0), takes(5, 28))

    def test_of_the_last_of_a_row(self):
        self.check([0, 5], [(0, 0), (1, 0)], LINE, takes(0, 9), takes(1, 4), place(0, 0, 0), place(1, 1, 0))
        self.check([5, 0], [(1, 0), (0, 0)], LINE, takes(0, 9), takes(1, 4), place(0, 0, 0), place(1, 1, 0))

    def test_a_train_that_is_ready_late(self):
        self.check([94, 0], [(0, 0), (1, 0)], LINE, place(0, 0, 0), place(1, 1, 0), ready(1, 94))
        # Train 0 waits for itself alone, so that the one before it may be late.
        self.check([86, 0], [(1, 3), (0, 2)], CROSSES, *CROSSES_TAKES, *THREE, ready(0, 100))

    def test_no_such_move(self):
        told = run(LINE, place(0, 0, 1), slack(0), slack(1), slack(1, (0, 0)), slack(2, (0, 0)), slack(2, (0, 0), (0, 0)),
                   slack(LARGEST, (0, 0)), slack(LARGEST), slack(64, *[(0, 0)] * 64), slack(63, *[(0, 0)] * 64))
        self.assertEqual(told[2:], [[-4]] * 8 + [[0]])

    def test_the_row_is_looked_at_before_the_moves_number(self):
        told = run(LINE, place(0, 0, 1), slack(5, (0, 1)), slack(LARGEST, (0, 0), (2, 0)), [5, 9, 1, 0], [5, 9, 3, 7, 7, 7],
                   slack(99, *[(0, 0)] * 65), slack(0, (0, 0), (0, 2)))
        self.assertEqual(told[2:], [[-3, 0], [-3, 1], [-1], [-1], [-1], [-3, 1]])


class Chain(unittest.TestCase):
    def check(self, asked, moves, *calls):
        self.assertEqual(run(*calls, chain(*moves))[-1], [len(asked)] + asked)

    def test_a_row_of_none(self):
        self.check([], [])
        self.check([], [], LINE, place(0, 0, 1), ready(0, 9))

    def test_one_move(self):
        self.check([0], [(0, 0)], LINE, place(0, 0, 1))

    def test_one_trains_own_moves(self):
        self.check([0, 1, 2, 3], [(0, 2), (0, 3), (0, 4), (0, 1)], LINE, *LINE_TAKES, place(0, 0, 1))
        self.check([0, 2], [(0, 0), (1, 0), (0, 0)], LINE, place(0, 0, 1), place(1, 1, 1))
        self.check(list(range(64)), [(0, 0)] * 64, LINE, place(0, 0, 1))

    def test_through_a_section_that_came_free(self):
        calls = (CROSSES, *CROSSES_TAKES, *THREE)
        self.check([0, 2], [(0, 2), (1, 3), (2, 4)], *calls)
        self.check([0, 1, 2], [(1, 3), (0, 2), (2, 4)], *calls)
        self.check([0, 1], [(1, 1), (0, 5)], LINE, *LINE_TAKES, place(0, 3, 0), place(1, 0, 0))
        self.check([0, 1], [(0, 3), (1, 2)], LINE, *LINE_TAKES, place(0, 1, 1), place(1, 0, 1))

    def test_through_both(self):
        calls = (JUNCTION, takes(0, 2), takes(2, 3), takes(3, 5), takes(4, 7), place(0, 0, 1), place(1, 1, 1))
        self.check([0, 1, 2], [(0, 2), (0, 4), (1, 3)], *calls)

    def test_of_two_that_end_when_all_is_done_the_lowest(self):
        self.check([0], [(0, 0), (1, 0)], LINE, place(0, 0, 0), place(1, 1, 0))
        self.check([0], [(1, 0), (0, 0)], LINE, place(0, 0, 0), place(1, 1, 0))
        self.check([1], [(1, 0), (0, 0), (2, 0)], LINE, takes(1, 4), takes(2, 5), takes(3, 5), place(0, 2, 0),
                   place(1, 1, 0), place(2, 3, 0))
        self.check([0, 1], [(0, 0), (0, 0), (1, 0)], LINE, takes(1, 2), place(0, 0, 0), place(1, 1, 0))
        self.check([0], [(1, 0), (0, 0), (0, 0)], LINE, takes(1, 2), place(0, 0, 0), place(1, 1, 0))

    def test_of_two_that_bind_the_last(self):
        calls = (CROSSES, takes(1, 3), takes(5, 11), takes(2, 3), takes(7, 11), *THREE)
        self.check([1, 2], [(1, 3), (2, 4), (0, 2)], *calls)
        self.check([1, 2], [(2, 4), (1, 3), (0, 2)], *calls)

    def test_of_its_own_move_and_another_the_last(self):
        calls = (CROSSES, *CROSSES_TAKES, *THREE, place(0, 0, 0), takes(0, 14))
        self.check([1, 2], [(1, 3), (0, 0), (0, 2)], *calls)
        self.check([1, 2], [(0, 0), (1, 3), (0, 2)], *calls)
        self.check([0, 2], [(0, 0), (1, 3), (0, 2)], *calls, takes(0, 15))
        self.check([1, 2], [(0, 0), (1, 3), (0, 2)], *calls, takes(0, 13))
        self.check([0, 2], [(1, 3), (0, 0), (0, 2)], *calls, takes(0, 13))

    def test_a_train_that_is_ready_late(self):
        calls = (CROSSES, *CROSSES_TAKES, *THREE)
        self.check([1], [(1, 3), (0, 2)], *calls, ready(0, 15))
        self.check([1, 2], [(1, 3), (0, 2), (2, 4)], *calls, ready(0, 15))
        self.check([0], [(0, 0)], LINE, place(0, 0, 0), ready(0, 1000000))

    def test_a_train_that_is_ready_just_when_another_is_out_of_its_way(self):
        self.check([0, 1], [(1, 3), (0, 2)], CROSSES, *CROSSES_TAKES, *THREE, ready(0, 14))

    def test_a_move_that_ended_just_then_but_is_out_of_the_way_binds_nothing(self):
        # Train 2 turns till 14, when train 0 begins.
        self.check([0, 2], [(1, 3), (2, 0), (0, 2)], CROSSES, *CROSSES_TAKES, *THREE, takes(6, 14))
        self.check([2], [(1, 0), (2, 0), (0, 2)], CROSSES, *CROSSES_TAKES, *THREE, takes(6, 14), ready(0, 14))

    def test_a_move_that_began_just_then_binds_nothing(self):
        self.check([1], [(2, 0), (0, 2)], CROSSES, *CROSSES_TAKES, *THREE)


if __name__ == "__main__":
    unittest.main()
