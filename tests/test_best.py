"""best: of all rows that bring what is wanted the one that is done soonest."""

import unittest

from tests.helper import LARGEST, LINE, best, lines, place, read, ready, run, takes, times

# Move 2 goes from A through P, S and Q to Z; 3 from A through P to M, 4 from there through Q to Z.
TWO_WAYS = read(lines("plain A", "point P", "plain S", "plain M", "point Q", "plain Z", "join A.1 P.0", "join P.1 S.0",
                      "join S.1 Q.1", "join P.2 M.0", "join M.1 Q.2", "join Q.0 Z.0", "signal A.1", "signal M.1"))

# The same, but that a train can't stop in M: move 2 goes through S, 3 through M.
TWO_ROUTES = read(lines("plain A", "point P", "plain S", "plain M", "point Q", "plain Z", "join A.1 P.0", "join P.1 S.0",
                        "join S.1 Q.1", "join P.2 M.0", "join M.1 Q.2", "join Q.0 Z.0", "signal A.1"))

# Two tracks that cross: move 2 goes from A through X to B, 3 from C through X to D.
CROSS = read(lines("plain A", "cross X", "plain B", "plain C", "plain D", "join A.1 X.0", "join X.1 B.0", "join C.1 X.2",
                   "join X.3 D.0", "signal A.1", "signal C.1"))

# Three yards that lie apart, with one train in each: of at most 5 moves there are just 20,000 rows that can be made
# (tests/test_rows_any.py counts them).
FULL = ("plain A0", "plain A1", "plain A2", "border A1.0", "join A0.0 A1.1", "join A2.1 A0.1", "signal A0.0",
        "signal A1.1", "plain B0", "plain B1", "plain B2", "point B3", "point B4", "point B5", "join B3.2 B0.0",
        "join B0.1 B5.0", "join B4.2 B1.0", "join B3.1 B2.0", "join B5.2 B4.1", "join B4.0 B3.0", "join B2.1 B5.1",
        "signal B0.1", "signal B2.0", "signal B2.1", "signal B0.0", "plain C0", "plain C1", "point C2", "point C3",
        "join C2.0 C0.1", "join C3.1 C2.2", "join C3.0 C1.0", "join C3.2 C0.0", "join C1.1 C2.1", "signal C0.0",
        "signal C1.1", "signal C0.1", "signal C1.0")
FULL_PLACES = (place(0, 0, 0), place(1, 3, 1), place(2, 9, 1))

# With another first yard there are just 20,001.
OVER = ("plain A0", "plain A1", "border A0.1", "join A1.1 A0.0", "signal A0.0", "signal A1.1") + FULL[8:]
OVER_PLACES = (place(0, 0, 0), place(1, 2, 1), place(2, 8, 1))


class Best(unittest.TestCase):
    def check(self, done, moves, asked, *calls):
        """asked is a, b, c and most; a row that is told must be done when times tells it, too."""
        told = run(*calls, best(*asked), times(*moves))[-2:]
        self.assertEqual(told[0], [done, len(moves)] + [number for move in moves for number in move])
        self.assertEqual(told[1][0], done)

    def refused(self, number, asked, *calls):
        self.assertEqual(run(*calls, best(*asked))[-1], [number])

    def test_what_is_wanted_is_so(self):
        self.check(0, [], (0, 0, 0, 0))
        self.check(0, [], (1, 1, 1, 5))
        self.check(0, [], (0, 0, 0, 5), LINE, place(0, 0, 1), place(1, 2, 1))
        self.check(0, [], (2, 1, 0, 5), LINE, place(0, 0, 1), place(2, 2, 1))
        self.check(0, [], (2, 4, 3, 0), LINE, place(0, 0, 1), place(2, 1, 1), place(1, 2, 0), ready(0, 99))

    def test_anything(self):
        self.check(1, [(1, 2)], (0, 3, 0, 5), LINE, place(0, 3, 1), place(1, 0, 1))

    def test_that_it_is_not_there(self):
        self.check(1, [(0, 1)], (1, 0, 0, 5), LINE, place(0, 3, 1))
        self.check(2, [(0, 0), (0, 1)], (1, 0, 0, 5), LINE, place(0, 3, 0))
        self.check(4, [(2, 2), (2, 3), (2, 4), (2, 1)], (0, 0, 1, 5), LINE, place(2, 0, 1), takes(0, 3))
        self.check(2, [(0, 0), (0, 1)], (1, 0, 0, 5), LINE, place(0, 0, 1))

    def test_a_section(self):
        for section in range(4):
            moves = [(0, 2), (0, 3), (0, 4)][:section]
            self.check(section, moves, (section + 2, 0, 0, 5), LINE, place(0, 0, 1))

    def test_a_section_whatever_it_heads_for(self):
        self.check(0, [], (2, 0, 0, 5), LINE, place(0, 0, 0))
        self.check(0, [], (2, 0, 0, 5), LINE, place(0, 0, 1))

    def test_all_three(self):
        calls = (LINE, place(0, 2, 1), place(1, 1, 1), place(2, 0, 1))
        self.check(3, [(0, 4), (1, 3), (2, 2)], (5, 4, 3, 5), *calls)
        self.check(3, [(0, 4), (0, 1), (1, 3), (2, 2)], (1, 4, 3, 5), *calls)
        self.refused(-3, (3, 4, 5, 5), *calls)

    def test_the_most_moves(self):
        calls = (LINE, place(0, 0, 1))
        self.refused(-3, (5, 0, 0, 0), *calls)
        self.refused(-3, (5, 0, 0, 1), *calls)
        self.refused(-3, (5, 0, 0, 2), *calls)
        self.check(3, [(0, 2), (0, 3), (0, 4)], (5, 0, 0, 3), *calls)
        self.check(3, [(0, 2), (0, 3), (0, 4)], (5, 0, 0, 5), *calls)
        self.check(1, [(0, 2)], (3, 0, 0, 1), *calls)
        self.check(0, [], (2, 0, 0, 0), *calls)

    def test_five_moves(self):
        calls = (LINE, place(0, 0, 0), place(1, 3, 1))
        self.check(4, [(0, 0), (0, 2), (0, 3), (1, 1), (0, 4)], (5, 1, 0, 5), *calls)
        self.refused(-3, (5, 1, 0, 4), *calls)

    def test_most_above_5(self):
        for most in (6, 7, 64, LARGEST):
            self.refused(-1, (0, 0, 0, most), LINE)
            self.refused(-1, (0, 0, 0, most))

    def test_a_number_of_what_is_wanted_at_its_edge_and_above(self):
        calls = (LINE, place(0, 3, 1))
        self.check(0, [], (5, 0, 0, 5), *calls)
        for wanted in ((6, 0, 0), (0, 6, 0), (0, 0, 6), (7, 1, 1), (LARGEST, 0, 0), (0, LARGEST, 0), (5, 0, LARGEST)):
            self.refused(-1, (*wanted, 5), *calls)
            self.refused(-1, (*wanted, 0), *calls)
        self.refused(-3, (0, 5, 0, 5), *calls)
        self.refused(-3, (0, 0, 5, 5), *calls)
        self.refused(-1, (2, 0, 0, 5))
        self.check(0, [], (1, 1, 1, 5))

    def test_a_section_that_no_train_can_stand_in(self):
        self.refused(-3, (3, 0, 0, 5), TWO_WAYS, place(0, 0, 1))

    def test_none(self):
        self.refused(-3, (0, 2, 0, 5), LINE, place(0, 3, 0))
        self.refused(-3, (2, 2, 0, 5), LINE, place(0, 3, 0), place(1, 0, 0))
        self.refused(-3, (1, 0, 0, 5), TWO_WAYS, place(0, 0, 1))
        self.refused(-3, (2, 0, 0, 5), TWO_WAYS, place(0, 5, 1))

    def test_the_sooner_one(self):
        self.check(4, [(0, 3)], (7, 0, 0, 5), TWO_ROUTES, place(0, 0, 1), takes(2, 2))
        self.check(4, [(0, 2)], (7, 0, 0, 5), TWO_ROUTES, place(0, 0, 1), takes(3, 2))

    def test_the_sooner_one_though_it_has_more_moves(self):
        self.check(4, [(0, 3), (0, 4)], (7, 0, 0, 5), TWO_WAYS, place(0, 0, 1), takes(2, 2))
        self.check(5, [(0, 2)], (7, 0, 0, 1), TWO_WAYS, place(0, 0, 1), takes(2, 2))

    def test_of_as_soon_ones_that_with_fewer_moves(self):
        self.check(4, [(0, 2)], (7, 0, 0, 5), TWO_WAYS, place(0, 0, 1))
        # With turns of train 0 ahead it would be done as soon, and come first.
        self.check(102, [(1, 2)], (0, 4, 0, 5), CROSS, place(0, 3, 1), place(1, 0, 1), ready(1, 100))

    def test_of_these_the_first(self):
        self.check(4, [(0, 2)], (7, 0, 0, 5), TWO_ROUTES, place(0, 0, 1))
        self.check(1, [(0, 2), (1, 4)], (3, 5, 0, 5), LINE, place(0, 0, 1), place(1, 2, 1))
        self.check(1, [(0, 4), (1, 2)], (5, 3, 0, 5), LINE, place(1, 0, 1), place(0, 2, 1))

    def test_of_one_trains_moves_the_lower_number_first(self):
        # It turns and goes from A by A.0, or goes from A by B.
        ring = read(lines("plain A", "plain B", "plain Z", "join A.1 B.0", "join B.1 Z.0", "join A.0 Z.1", "signal A.0",
                          "signal A.1", "signal B.1", "signal Z.0", "signal Z.1"))
        self.check(2, [(0, 0), (0, 2)], (4, 0, 0, 5), ring, place(0, 0, 1))
        self.check(2, [(0, 3), (0, 4)], (4, 0, 0, 5), ring, place(0, 0, 1), takes(0, 2))

    def test_the_order_that_is_done_sooner_though_it_is_not_the_first(self):
        calls = (CROSS, place(0, 0, 1), place(1, 3, 1))
        self.check(4, [(0, 2), (1, 3)], (4, 6, 0, 5), *calls)
        self.check(7, [(1, 3), (0, 2)], (4, 6, 0, 5), *calls, ready(0, 5))
        self.check(8, [(0, 2), (1, 3)], (4, 6, 0, 5), *calls, ready(1, 6))

    def test_a_train_that_must_make_way(self):
        self.check(2, [(1, 3), (0, 2)], (3, 0, 0, 5), LINE, place(0, 0, 1), place(1, 1, 1))
        self.check(5, [(1, 0), (1, 1), (0, 5)], (2, 0, 0, 5), LINE, place(0, 3, 0), place(1, 0, 1))

    def test_a_train_that_is_ready_late(self):
        self.check(1000001, [(0, 2)], (3, 0, 0, 5), LINE, place(0, 0, 1), place(1, 3, 1), ready(0, 1000000))

    def test_one_is_in_the_others_section(self):
        self.refused(-3, (3, 2, 0, 5), LINE, place(0, 0, 1), place(1, 1, 1))

    def test_the_trains_stay_where_they_are(self):
        told = run(LINE, place(0, 0, 1), place(1, 3, 1), best(5, 1, 0, 5), best(5, 1, 0, 5), times((0, 2)), times((1, 1)),
                   place(2, 0, 0), place(2, 3, 0), best(6, 0, 0, 5), best(0, 0, 5, 5), best(0, 0, 0, 0), times((0, 2)))
        self.assertEqual(told[3], told[4])
        self.assertEqual(told[5:], [[1, 0, 1], [1, 0, 1], [-5], [-5], [-1], [-3], [0, 0], [1, 0, 1]])


class TooManyRows(unittest.TestCase):
    def test_20000_and_one_more(self):
        full = (read(lines(*FULL)), *FULL_PLACES)
        over = (read(lines(*OVER)), *OVER_PLACES)
        self.assertEqual(run(*full, best(0, 0, 0, 5))[-1], [0, 0])
        self.assertEqual(run(*over, best(0, 0, 0, 5))[-1], [-8])
        self.assertEqual(run(*over, best(0, 0, 0, 4))[-1], [0, 0])

    def test_it_is_told_whatever_is_wanted(self):
        over = (read(lines(*OVER)), *OVER_PLACES)
        for wanted in ((0, 0, 0), (2, 4, 10), (3, 0, 0), (1, 1, 1), (0, 5, 0), (13, 13, 13)):
            self.assertEqual(run(*over, best(*wanted, 5))[-1], [-8], wanted)

    def test_it_is_told_behind_wrong_numbers_and_before_that_there_is_none(self):
        over = (read(lines(*OVER)), *OVER_PLACES)
        self.assertEqual(run(*over, best(0, 0, 14, 5))[-1], [-1])
        self.assertEqual(run(*over, best(0, 0, 0, 6))[-1], [-1])
        self.assertEqual(run(*over, best(1, 1, 1, 4))[-1], [-3])

    def test_trains_that_are_not_there_make_no_rows(self):
        self.assertEqual(run(read(lines(*OVER)), *OVER_PLACES[:2], best(0, 0, 1, 5))[-1], [0, 0])


if __name__ == "__main__":
    unittest.main()
