"""The interface: one list of numbers in, one out, and nothing kept between."""

import contextlib
import io
import unittest

from tests.helper import lines, place, read, ready, run, takes
from yardtimes.yard import NoSuchCall, answers


class Answers(unittest.TestCase):
    def test_each_answer_has_its_count_before_it(self):
        calls = read(lines("plain A", "plain B")) + place(0, 1, 0) + read("x\n") + takes(0, 5) + ready(3, 0)
        self.assertEqual(answers(calls), [1, 2, 1, 0, 3, -6, 0, 1, 1, 0, 1, -1])

    def test_a_new_object_has_no_sections_and_no_trains(self):
        self.assertEqual(run(place(0, 0, 0)), [[-4]])
        self.assertEqual(run(takes(0, 1)), [[-4]])
        self.assertEqual(run(ready(0, 0)), [[0]])

    def test_nothing_is_kept_from_one_time_to_the_next(self):
        plan = read(lines("plain A"))
        self.assertEqual(run(plan, place(0, 0, 0)), [[1], [0]])
        self.assertEqual(run(place(1, 0, 0)), [[-4]])
        self.assertEqual(run(plan, place(1, 0, 0)), [[1], [0]])

    def test_what_is_handed_in_stays_as_it_was(self):
        calls = read(lines("plain A", "border A.0")) + place(2, 0, 1) + takes(0, 9) + ready(1, 7) + read("plain\n")
        kept = list(calls)
        answers(calls)
        self.assertEqual(calls, kept)

    def test_what_is_answered_is_a_new_list(self):
        calls = read("")
        answers(calls).append(5)
        self.assertEqual(answers(calls), [1, 0])

    def test_four_hundred_calls(self):
        calls = [ready(number % 4, number) for number in range(400)]
        self.assertEqual(run(*calls), [[-1] if number % 4 == 3 else [0] for number in range(400)])

    def test_a_long_list_of_calls(self):
        text = lines("plain A") + "\n" * 1000
        self.assertEqual(run(*[read(text) for number in range(29)]), [[-6, 1, 1]] * 29)

    def test_nothing_is_printed(self):
        printed = io.StringIO()
        with contextlib.redirect_stdout(printed), contextlib.redirect_stderr(printed):
            answers(read(lines("plain A")) + read("wrong") + place(0, 0, 0) + takes(0, 0) + ready(9, 9))
        self.assertEqual(printed.getvalue(), "")

    def test_a_number_that_is_no_call(self):
        self.assertRaises(NoSuchCall, answers, [8])


if __name__ == "__main__":
    unittest.main()
