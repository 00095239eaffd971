"""read: what is a plan's text, and which fault is the first of one that is none."""

import unittest

from tests.helper import diamonds, lines, read, run


def answer(text):
    return run(read(text))[0]


class Plans(unittest.TestCase):
    def check(self, count, *told):
        self.assertEqual(answer(lines(*told)), [count])

    def test_no_bytes(self):
        self.assertEqual(answer(""), [0])

    def test_each_kind_of_section(self):
        self.check(1, "plain A")
        self.check(1, "point A")
        self.check(1, "cross A")
        self.check(3, "cross A", "plain B", "point C")

    def test_names(self):
        self.check(6, "plain A", "plain Z", "plain A0", "plain Z9", "plain ABCD", "plain B123")

    def test_all_ends_of_each_kind(self):
        self.check(2, "plain A", "plain B", "join A.0 B.1", "border A.1", "border B.0")
        self.check(2, "point A", "plain B", "join A.2 B.1", "join A.0 A.1")
        self.check(2, "cross A", "plain B", "join A.3 B.1", "join A.0 A.1", "join A.2 B.0")

    def test_signals_at_both_ends_of_a_join(self):
        self.check(2, "plain A", "plain B", "join A.1 B.0", "signal A.1", "signal B.0")

    def test_lines_in_any_order(self):
        self.check(3, "plain A", "border A.0", "plain B", "join A.1 B.0", "signal A.1", "point C", "join C.0 B.1",
                   "signal B.1", "signal B.0")

    def test_a_section_joined_to_itself(self):
        self.check(1, "plain A", "join A.0 A.1", "signal A.1", "signal A.0")
        self.check(1, "cross A", "join A.3 A.0")

    def test_sixteen_sections(self):
        self.check(16, *[f"plain S{number}" for number in range(16)])
        self.check(16, *[f"{('plain', 'point', 'cross')[number % 3]} S{number}" for number in range(16)])

    def test_twelve_signals(self):
        self.check(7, *ring(7), *ring_signals(7)[:12])


def ring(count):
    told = [f"plain S{number}" for number in range(count)]
    return told + [f"join S{number}.1 S{(number + 1) % count}.0" for number in range(count)]


def ring_signals(count):
    return [f"signal S{number}.{end}" for number in range(count) for end in (1, 0)]


class Faults(unittest.TestCase):
    def check(self, line, kind, *told):
        self.assertEqual(answer(lines(*told)), [-6, line, kind], told)

    def test_1_words_that_are_no_line(self):
        for wrong in ("", " ", "plain", "plains A", "Plain A", "PLAIN A", "plain A B", "plain A.0", "A", "join",
                      "join A.0", "join A.0 B.0 C.0", "join A B", "join A.0 B", "join A.0,B.0", "border", "border A",
                      "border A.0 A.1", "signal", "signal A", "signal A.0 A.1", "signals A.0", "crossA", "# plain C"):
            self.check(2, 1, "plain A", "plain B", wrong)

    def test_1_blanks(self):
        for wrong in ("plain  C", "plain C ", " plain C", "plain ", "plain", "join  A.0 B.0", "join A.0  B.0",
                      "join A.0 B.0 ", "border A.0 ", "border  A.0", "signal A.0 ", "plain\tC", "plain C\t", "plain C\r"):
            self.check(2, 1, "plain A", "plain B", wrong)

    def test_1_names(self):
        for name in ("ABCDE", "A1234", "1", "1A", "9ABC", "a", "Ab", "aB", "A_", "A-B", "A.", ".", "@", "[", "A/", "A:",
                     "A?", "?", "A\xc4", "\xc4", "\x00", "A\x00", "A\xff", "A\xb2", "\xb2"):
            self.check(0, 1, "plain " + name)
            self.check(0, 1, "point " + name)
            self.check(0, 1, "cross " + name)

    def test_1_ends(self):
        for end in ("A.4", "A.5", "A.6", "A.7", "A.8", "A.9", "A.", ".0", "A0", "A", "A..0", "A.00", "A.-1", "A.a", "A.A",
                    "A. 0", "A .0", "a.0", "1A.0", "ABCDE.0", "0", ".", "", "A,0", "A./", "A.\xb2", "A.0."):
            self.check(2, 1, "cross A", "plain B", "border " + end)
            self.check(2, 1, "cross A", "plain B", "signal " + end)
            self.check(2, 1, "cross A", "plain B", f"join {end} B.0")
            self.check(2, 1, "cross A", "plain B", f"join B.0 {end}")

    def test_1_each_byte_that_no_name_begins_with(self):
        for byte in range(256):
            asked = [1] if 65 <= byte <= 90 else [-6, 0, 1]
            self.assertEqual(answer(b"plain " + bytes([byte, 10])), asked, byte)

    def test_1_each_byte_that_no_name_goes_on_with(self):
        for byte in range(256):
            # A byte 10 there ends a line that is right, and the next is empty.
            asked = [1] if 65 <= byte <= 90 or 48 <= byte <= 57 else [-6, 1 if byte == 10 else 0, 1]
            self.assertEqual(answer(b"cross A" + bytes([byte, 10])), asked, byte)

    def test_1_the_text_ends_within_a_line(self):
        self.assertEqual(answer("plain A"), [-6, 0, 1])
        self.assertEqual(answer("p"), [-6, 0, 1])
        self.assertEqual(answer(" "), [-6, 0, 1])
        self.assertEqual(answer("plain A\nplain B"), [-6, 1, 1])
        self.assertEqual(answer("plain A\nplain A"), [-6, 1, 1])
        self.assertEqual(answer("plain A\nplain B\nborder A.0"), [-6, 2, 1])

    def test_1_an_empty_line(self):
        self.assertEqual(answer("\n"), [-6, 0, 1])
        self.assertEqual(answer("plain A\n\n"), [-6, 1, 1])
        self.assertEqual(answer("plain A\n\nplain B\n"), [-6, 1, 1])

    def test_2_the_name_is_there(self):
        self.check(1, 2, "plain A", "plain A")
        self.check(2, 2, "plain A", "plain B", "cross A")
        self.check(1, 2, "point AB12", "plain AB12")

    def test_3_no_such_section(self):
        self.check(0, 3, "border A.0")
        self.check(0, 3, "signal A.0")
        self.check(1, 3, "plain A", "join A.0 B.0")
        self.check(1, 3, "plain A", "join B.0 A.0")
        self.check(0, 3, "join A.0 A.0")
        self.check(1, 3, "plain A", "join A.1 B.0", "plain B")

    def test_3_no_such_end(self):
        for kind, end in (("plain", 2), ("plain", 3), ("point", 3)):
            self.check(2, 3, f"{kind} A", "plain B", f"border A.{end}")
            self.check(2, 3, f"{kind} A", "plain B", f"signal A.{end}")
            self.check(2, 3, f"{kind} A", "plain B", f"join A.{end} B.0")
            self.check(2, 3, f"{kind} A", "plain B", f"join B.0 A.{end}")

    def test_4_the_end_is_taken(self):
        joined = ("plain A", "plain B", "plain C", "join A.1 B.0", "border B.1")
        for wrong in ("join A.1 C.0", "join C.0 A.1", "join B.0 C.0", "join A.1 B.0", "join B.0 A.1", "join C.0 B.1",
                      "join B.1 C.0", "border A.1", "border B.0", "border B.1"):
            self.check(5, 4, *joined, wrong)

    def test_4_the_end_has_a_signal(self):
        self.check(4, 4, "plain A", "plain B", "join A.1 B.0", "signal A.1", "signal A.1")
        self.check(4, 4, "plain A", "plain B", "join A.1 B.0", "signal A.1", "border A.1")

    def test_4_the_two_are_one_end(self):
        self.check(1, 4, "plain A", "join A.0 A.0")
        self.check(1, 4, "cross A", "join A.3 A.3")

    def test_5_the_signals_end_is_not_joined(self):
        self.check(1, 5, "plain A", "signal A.0")
        self.check(2, 5, "plain A", "border A.0", "signal A.0")
        self.check(2, 5, "plain A", "plain B", "signal A.1", "join A.1 B.0")

    def test_6_the_section_is_not_plain(self):
        for kind, end in (("point", 0), ("point", 2), ("cross", 3)):
            self.check(1, 6, f"{kind} A", f"border A.{end}")
            self.check(3, 6, f"{kind} A", "plain B", f"join B.0 A.{end}", f"signal A.{end}")

    def test_7_the_17th_section(self):
        for kind in ("plain", "point", "cross"):
            self.check(16, 7, *[f"plain S{number}" for number in range(16)], f"{kind} A")

    def test_7_the_13th_signal(self):
        self.check(26, 7, *ring(7), *ring_signals(7))
        self.check(26, 7, *ring(7), *ring_signals(7)[1:])

    def test_the_lowest_kind_of_a_line_is_told(self):
        full = [f"plain S{number}" for number in range(16)]
        self.check(16, 1, *full, "plain s")
        self.check(16, 2, *full, "plain S3")
        self.check(3, 3, "plain A", "plain B", "join A.1 B.0", "join A.1 C.0")
        self.check(3, 3, "plain A", "plain B", "join A.1 B.0", "join A.2 B.0")
        self.check(1, 3, "plain A", "join A.2 A.2")
        self.check(1, 3, "plain A", "signal A.2")
        self.check(1, 3, "point A", "border A.3")
        self.check(3, 4, "point A", "plain B", "join A.1 B.0", "border A.1")
        self.check(1, 5, "point A", "signal A.1")
        self.check(26, 4, *ring(7), *ring_signals(7)[:12], "signal S0.0")
        point = ("point P", "plain T", "join P.0 T.0")
        self.check(29, 5, *ring(7), *ring_signals(7)[:12], *point, "signal T.1")
        self.check(29, 6, *ring(7), *ring_signals(7)[:12], *point, "signal P.0")
        self.check(29, 7, *ring(7), *ring_signals(7)[:12], *point, "signal T.0")

    def test_the_first_wrong_line_is_told(self):
        self.check(1, 3, "plain A", "border B.0", "plain a")
        self.check(1, 6, "point A", "border A.0", "plain A")
        self.check(1, 2, "plain A", "plain A", "")
        self.check(0, 1, "", "signal A.0")
        self.assertEqual(answer("plain A\nsignal A.0\nplain"), [-6, 1, 5])


class Bounds(unittest.TestCase):
    def test_a_text_of_1024_bytes_is_looked_at(self):
        text = lines("plain A", "plain B", "join A.1 B.0")
        self.assertEqual(answer(text + "x" * (1023 - len(text)) + "\n"), [-6, 3, 1])
        self.assertEqual(answer(text + "x" * (1024 - len(text))), [-6, 3, 1])
        self.assertEqual(answer("\n" * 1024), [-6, 0, 1])

    def test_a_text_of_1025_bytes_is_too_long(self):
        text = lines("plain A", "plain B", "join A.1 B.0")
        self.assertEqual(answer(text + "x" * (1024 - len(text)) + "\n"), [-2])
        self.assertEqual(answer("\n" * 1025), [-2])
        self.assertEqual(answer("x" * 2000), [-2])

    def test_64_routes_and_more(self):
        plan = diamonds(6) + ["signal A.1"]
        self.assertEqual(answer(lines(*plan)), [14])
        more = plan + ["plain X", "plain Y", "join X.1 Y.0"]
        self.assertEqual(answer(lines(*more)), [16])
        self.assertEqual(answer(lines(*more, "signal X.1")), [-9])
        self.assertEqual(answer(lines(*plan, "signal Z.0")), [-9])

    def test_a_fault_is_told_before_too_many_routes(self):
        plan = diamonds(7) + ["signal A.1"]
        self.assertEqual(answer(lines(*plan)), [-9])
        self.assertEqual(answer(lines(*plan, "signal A.1")), [-6, len(plan), 4])

    def test_too_long_is_told_before_a_fault_and_too_many_routes(self):
        plan = lines(*diamonds(7), "signal A.1")
        self.assertEqual(answer(plan + "x" * (1025 - len(plan))), [-2])


class WhatIsNoRoute(unittest.TestCase):
    """Behind 64 routes, one more route would be seen as -9."""

    def check(self, asked, *told):
        full = diamonds(5) + ["signal A.1", "signal Z.0"]
        self.assertEqual(answer(lines(*full)), [12])
        self.assertEqual(answer(lines(*full, *told)), [asked])

    def test_one_route_more(self):
        self.check(-9, "plain V", "plain W", "join V.1 W.0", "signal V.1")

    def test_a_section_joined_to_itself(self):
        self.check(13, "plain V", "join V.0 V.1", "signal V.1", "signal V.0")

    def test_a_loop_of_track(self):
        self.check(15, "plain V", "plain W", "plain X", "join V.1 W.0", "join W.1 X.0", "join X.1 V.0", "signal V.1")

    def test_a_loop_of_track_with_two_signals(self):
        self.check(-9, "plain V", "plain W", "plain X", "join V.1 W.0", "join W.1 X.0", "join X.1 V.0", "signal V.1",
                   "signal X.1")

    def test_a_way_that_ends_in_a_point(self):
        self.check(14, "plain V", "point W", "join V.1 W.0", "signal V.1")
        self.check(14, "plain V", "point W", "join V.1 W.2", "signal V.1")

    def test_a_way_that_ends_in_a_cross(self):
        self.check(14, "plain V", "cross W", "join V.1 W.2", "signal V.1")
        self.check(15, "plain V", "cross W", "plain X", "join V.1 W.2", "join W.0 X.0", "signal V.1")
        self.check(-9, "plain V", "cross W", "plain X", "join V.1 W.2", "join W.3 X.0", "signal V.1")

    def test_a_way_back_through_the_signals_section(self):
        self.check(14, "plain V", "point W", "join V.1 W.0", "join V.0 W.1", "signal V.1")

    def test_a_way_through_a_point_or_a_cross_twice(self):
        self.check(14, "plain V", "point W", "join V.1 W.0", "join W.1 W.2", "signal V.1")
        self.check(15, "plain V", "cross W", "plain X", "join V.1 W.0", "join W.1 W.2", "join W.3 X.0", "signal V.1")


if __name__ == "__main__":
    unittest.main()
