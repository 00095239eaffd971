"""times, slack, chain and best against the document's words, written down another way, on many small yards."""

import random
import unittest

from tests.helper import best, chain, joined_at_random, lines, place, read, ready, run, slack, takes, times
from tests.test_best import FULL, FULL_PLACES, OVER, OVER_PLACES
from tests.test_routes import found, plan_of


class Case:
    """A yard as the calls before have told it."""

    def __init__(self, told, stands, takes_of, ready_of):
        self.routes = found(*told)
        self.borders = plan_of(told).borders
        self.told, self.stands, self.takes_of, self.ready_of = told, stands, takes_of, ready_of

    def calls(self):
        return ([read(lines(*self.told))] + [place(train, *stand) for train, stand in self.stands.items()]
                + [takes(section, time) for section, time in self.takes_of.items()]
                + [ready(train, time) for train, time in enumerate(self.ready_of)])

    def takes(self, section):
        return self.takes_of.get(section, 1)

    def moved(self, stands, train, what):
        """Of each train that is there where it stands behind the move; None if it can't be made."""
        if train not in stands:
            return None
        section, end = stands[train]
        others = {other: stand for other, stand in stands.items() if other != train}
        if what == 0:
            return {**others, train: (section, 1 - end)}
        if what == 1:
            return others if (section, end) in self.borders else None
        if what - 2 >= len(self.routes):
            return None
        start, sections, heading = self.routes[what - 2]
        if start != (section, end) or any(stand[0] in sections for stand in stands.values()):
            return None
        return {**others, train: (sections[-1], heading)}

    def possible(self, stands):
        whats = range(2 + len(self.routes))
        return [(train, what) for train in range(3) for what in whats if self.moved(stands, train, what) is not None]

    def rows(self, most):
        """Each row that can be made, and where the trains stand behind it."""
        level = [([], self.stands)]
        for number in range(most + 1):
            yield from level
            if number < most:
                level = [(row + [move], self.moved(stands, *move)) for row, stands in level
                         for move in self.possible(stands)]

    def path(self, stands, move):
        """The section in which the train stands, then those of its route, if it goes by one."""
        return [stands[move[0]][0]] + (self.routes[move[1] - 2][1] if move[1] > 1 else [])

    def paths(self, row):
        stands, paths = self.stands, []
        for move in row:
            paths.append(self.path(stands, move))
            stands = self.moved(stands, *move)
        return paths

    def spans(self, row, late=None, by=0):
        """Of each move when it begins, when it ends, and of each section that comes free by it, when."""
        spans, ended, free = [], {}, {}
        for number, ((train, what), path) in enumerate(zip(row, self.paths(row))):
            begin = max([self.ready_of[train], ended.get(train, 0)] + [free.get(section, 0) for section in path[1:]])
            begin += by if number == late else 0
            end, left = begin, {}
            for behind, section in zip(path, path[1:]):
                end += self.takes(section)
                left[behind] = end
            if what < 2:
                end += self.takes(path[0])
                left = {path[0]: end} if what == 1 else {}
            ended[train] = end
            for section, time in left.items():
                free[section] = max(free.get(section, 0), time)
            spans.append((begin, end, left))
        return spans

    def done(self, row, late=None, by=0):
        return max([end for begin, end, left in self.spans(row, late, by)], default=0)

    def ticked(self, row):
        """When each move begins, by waiting till it can: time goes on by 1."""
        paths, begins, time = self.paths(row), {}, 0

        def left(number, section, now):
            """Whether the train of a move before is out of a section by it."""
            steps = paths[number][1:paths[number].index(section) + 2] or [paths[number][0]]
            return number in begins and begins[number] + sum(self.takes(step) for step in steps) <= now

        def gone(number, section):
            """Whether the move takes its train out of the section."""
            return row[number][1] == 1 and section in paths[number] or section in paths[number][:-1]

        def ended(number, now):
            steps = paths[number][1:] or paths[number]
            return number in begins and begins[number] + sum(self.takes(step) for step in steps) <= now

        def can(number, now):
            before = range(number)
            return (now >= self.ready_of[row[number][0]]
                    and all(ended(other, now) for other in before if row[other][0] == row[number][0])
                    and all(left(other, section, now) for other in before for section in paths[number][1:]
                            if gone(other, section)))

        while len(begins) < len(row):
            for number in range(len(row)):
                if number not in begins and can(number, time):
                    begins[number] = time
            time += 1
        return [begins[number] for number in range(len(row))]

    def slack(self, row, number):
        by = 0
        while self.done(row, number, by + 1) == self.done(row):
            by += 1
        return by

    def bound_by(self, row, number):
        spans, paths = self.spans(row), self.paths(row)
        binding = [other for other in range(number) if row[other][0] == row[number][0]][-1:]
        binding = [other for other in binding if spans[other][1] == spans[number][0]]
        for section in paths[number][1:]:
            last = [other for other in range(number) if section in spans[other][2]][-1:]
            binding += [other for other in last if spans[other][2][section] == spans[number][0]]
        return binding

    def chain(self, row):
        if not row:
            return []
        held = [[end for begin, end, left in self.spans(row)].index(self.done(row))]
        while self.bound_by(row, held[0]):
            held.insert(0, max(self.bound_by(row, held[0])))
        return held

    def is_so(self, stands, wanted):
        there = [train in stands for train in range(3)]
        return all(want == 0 or want == 1 and not there[train] or want > 1 and there[train]
                   and stands[train][0] == want - 2 for train, want in enumerate(wanted))

    def best(self, wanted, most):
        rows, good = 0, []
        for row, stands in self.rows(most):
            rows += 1
            if rows > 20000:
                return [-8]
            if self.is_so(stands, wanted):
                good.append((self.done(row), len(row), row))
        if not good:
            return [-3]
        done, count, row = min(good)
        return [done, count] + [number for move in row for number in move]


def some_plan(source, most_plain):
    """Lines of a small yard with many signals, and the kinds of its sections."""
    kinds = ["plain"] * source.randint(1, most_plain) + ["point"] * source.randint(0, 3)
    kinds += ["cross"] * source.randint(0, 1)
    source.shuffle(kinds)
    told, signals = joined_at_random(source, kinds, 0.9)
    return told + source.sample(signals, min(len(signals), 12, source.randint(2, 20))), kinds


def some_yard(source, most_plain=7, fewest_routes=0):
    told, kinds = some_plan(source, most_plain)
    while len(found(*told)) < fewest_routes:
        told, kinds = some_plan(source, most_plain)
    free = [number for number, kind in enumerate(kinds) if kind == "plain"]
    source.shuffle(free)
    stands = {train: (section, source.randint(0, 1)) for train, section in zip(source.sample(range(3), 3), free)}
    takes_of = {section: source.randint(1, 4) for section in range(len(kinds)) if source.random() < 0.6}
    return Case(told, stands, takes_of, [source.choice((0, 0, source.randint(0, 12))) for train in range(3)])


def some_row(source, case, length):
    """Moves that can be made, by routes rather than turns."""
    stands, row = case.stands, []
    while len(row) < length and case.possible(stands):
        moves = case.possible(stands)
        by_routes = [move for move in moves if move[1] > 1]
        move = source.choice(by_routes if by_routes and source.random() < 0.6 else moves)
        row.append(move)
        stands = case.moved(stands, *move)
    return row


def stands_behind(case, row):
    stands = case.stands
    for move in row:
        stands = case.moved(stands, *move)
    return stands


def reached(case, row):
    """What is wanted, if it is just what there is behind the row."""
    stands = stands_behind(case, row)
    return [stands[train][0] + 2 if train in stands else 1 for train in range(3)]


class AnyRow(unittest.TestCase):
    def check(self, case, row):
        asked = [*case.calls(), times(*row), chain(*row), *[slack(number, *row) for number in range(len(row) + 1)]]
        told = run(*asked)[len(case.calls()):]
        spans = case.spans(row)
        self.assertEqual(told[0], [case.done(row)] + [time for span in spans for time in span[:2]])
        self.assertEqual(told[0][1::2], case.ticked(row))
        self.assertEqual(told[1], [len(case.chain(row))] + case.chain(row))
        self.assertEqual([answer[0] for answer in told[2:]],
                         [case.slack(row, number) for number in range(len(row))] + [-4])
        self.assertTrue(all(told[2 + number] == [0] for number in told[1][1:]))
        return told

    def test_many_rows(self):
        source = random.Random(3)
        waits = shared = spare = 0
        for number in range(1500):
            case = some_yard(source)
            row = some_row(source, case, source.choice((0, 1, 2, 3, 4, 6, 8, 12)))
            told = self.check(case, row)
            trains = [move[0] for move in row]
            waits += any(case.bound_by(row, move) and trains[max(case.bound_by(row, move))] != trains[move]
                         for move in range(len(row)))
            shared += len({trains[move] for move in told[1][1:]}) > 1
            spare += any(answer[0] > 0 for answer in told[2:])
        # The yards must be such that something is seen in them.
        self.assertGreater(min(waits, shared, spare), 100)

    def test_long_rows(self):
        source = random.Random(4)
        for number in range(6):
            case = some_yard(source)
            self.check(case, some_row(source, case, 64))

    def test_of_two_moves_through_one_section_the_earlier_has_left_it(self):
        source = random.Random(5)
        seen = 0
        for number in range(1000):
            case = some_yard(source)
            row = some_row(source, case, 8)
            begins = run(*case.calls(), times(*row))[-1][1::2]
            spans, paths = case.spans(row), case.paths(row)
            for later in range(len(row)):
                for earlier in range(later):
                    for section in set(paths[earlier]) & set(paths[later][1:]) & set(spans[earlier][2]):
                        seen += 1
                        self.assertLessEqual(spans[earlier][2][section], begins[later])
        self.assertGreater(seen, 1000)

    def test_the_first_that_cannot_be_made(self):
        source = random.Random(6)
        seen = set()
        for number in range(1500):
            case = some_yard(source)
            row = some_row(source, case, source.randint(0, 6))
            stands = stands_behind(case, row)
            wrong = (source.randint(0, 3), source.randint(0, 2 + len(case.routes)))
            if wrong not in case.possible(stands):
                told = run(*case.calls(), times(*row, wrong), chain(*row, wrong, (0, 0)), slack(0, *row, wrong, wrong))
                self.assertEqual(told[-3:], [[-3, len(row)]] * 3)
                seen.add(len(row))
        self.assertEqual(seen, {0, 1, 2, 3, 4, 5, 6})


class AnyBest(unittest.TestCase):
    def check(self, case, wanted, most):
        """How many moves the best row has, or the refusal."""
        asked = case.best(wanted, most)
        told = run(*case.calls(), best(*wanted, most))[-1]
        self.assertEqual(told, asked, (case.told, case.stands, case.takes_of, case.ready_of, wanted, most))
        return asked[1] if len(asked) > 1 else asked[0]

    def test_anything_wanted(self):
        source = random.Random(7)
        seen = []
        for number in range(700):
            case = some_yard(source)
            sections = sum(line.split()[0] in ("plain", "point", "cross") for line in case.told)
            wanted = [source.choice((0, 0, source.randint(0, sections + 1))) for train in range(3)]
            seen.append(self.check(case, wanted, source.randint(0, 3)))
        self.assertTrue(all(seen.count(kind) >= 10 for kind in (-3, 0, 1)), seen)

    def test_what_can_be_reached(self):
        source = random.Random(8)
        seen = []
        for number in range(900):
            case = some_yard(source, fewest_routes=5)
            most = source.randint(1, 4)
            wanted = [source.choice((0, want, want)) for want in reached(case, some_row(source, case, most))]
            seen.append(self.check(case, wanted, most))
        self.assertTrue(all(seen.count(kind) >= 5 for kind in (0, 1, 2, 3, 4)), seen)

    def test_five_moves(self):
        source = random.Random(9)
        seen = []
        for number in range(40):
            case = some_yard(source, 6, 5)
            seen.append(self.check(case, reached(case, some_row(source, case, 5)), 5))
        self.assertTrue(all(kind in seen for kind in (1, 2, 3, 4, 5)), seen)

    def test_20000_rows_and_one_more(self):
        for told, places, asked in ((FULL, FULL_PLACES, 20000), (OVER, OVER_PLACES, 20001)):
            case = Case(told, {call[1]: (call[2], call[3]) for call in places}, {}, [0, 0, 0])
            self.assertEqual(sum(1 for row in case.rows(5)), asked)


if __name__ == "__main__":
    unittest.main()
