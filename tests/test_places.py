"""Point 4, and "A line"."""

import itertools
import unittest
from fractions import Fraction
from math import floor

from tests.helper import BLANK, PLACE, PRINTED, ask, ask_last, begin, blank, box, parted, patterns, place, places

MILLION = 1000000


def placed(width, i, j, things):
    return ask_last(places(width, i, j, things))


def expected_places(width, i, j, things):
    """The document's words once more, with fractions."""
    line = list(things[i + 1:j])
    while line and line[0][0] != PRINTED:
        line.pop(0)
    length = sum(thing[1] for thing in line if thing[0] in (PRINTED, BLANK))
    if j < len(things) and things[j][0] == PLACE:
        length += things[j][1]
    side, sign = (2, 1) if length <= width else (3, -1)
    t = abs(width - length)
    s = sum(thing[side] for thing in line if thing[0] == BLANK)
    if sign == -1 and s < t:
        return [-1]
    found, at, before = [], 0, 0
    for kind, wide, a, b in line:
        found.append(at)
        if kind == PRINTED:
            at += wide
        if kind == BLANK:
            upto = before + (a, b)[side - 2]
            if s:
                wide += sign * (floor(Fraction(t * upto, s)) - floor(Fraction(t * before, s)))
            at += wide
            before = upto
    return [len(found)] + found


class TheLine(unittest.TestCase):
    def test_from_the_beginning_to_the_end(self):
        self.assertEqual(placed(10, -1, 1, [box(10)]), [1, 0])
        self.assertEqual(placed(12, -1, 3, [box(5), blank(2), box(5)]), [3, 0, 5, 7])

    def test_from_a_place_on(self):
        things = [box(5), place(3), box(4), blank(1), box(2)]
        self.assertEqual(placed(7, 1, 5, things), [3, 0, 4, 5])

    def test_from_behind_any_thing(self):
        things = [box(5), blank(1), box(4), blank(2), box(3)]
        self.assertEqual(placed(20, 0, 5, things), [3, 0, 4, 6])
        self.assertEqual(placed(20, 2, 5, things), [1, 0])
        self.assertEqual(placed(20, 3, 5, things), [1, 0])

    def test_things_before_the_first_printed_one_are_left_out(self):
        things = [blank(7, 9, 9), place(3), blank(8, 9, 9), box(4), blank(1, 1, 1), box(2)]
        self.assertEqual(placed(7, -1, 6, things), [3, 0, 4, 5])
        self.assertEqual(placed(9, -1, 6, things), [3, 0, 4, 7])
        self.assertEqual(placed(6, 0, 6, things), [3, 0, 4, 4])
        self.assertEqual(placed(5, 1, 6, things), [-1])

    def test_things_behind_the_last_printed_one_stay(self):
        things = [box(4), blank(1, 1), place(0), blank(2, 1)]
        self.assertEqual(placed(7, -1, 4, things), [4, 0, 4, 5, 5])
        self.assertEqual(placed(9, -1, 4, things), [4, 0, 4, 6, 6])
        self.assertEqual(placed(6, -1, 4, things), [-1])

    def test_nothing_printed(self):
        self.assertEqual(placed(0, -1, 0, []), [0])
        self.assertEqual(placed(1000000000, -1, 0, []), [0])
        self.assertEqual(placed(0, -1, 2, [blank(5), place(9)]), [0])
        self.assertEqual(placed(0, 0, 2, [box(5), blank(9)]), [0])
        self.assertEqual(placed(0, 0, 1, [box(5), blank(9)]), [0])

    def test_nothing_printed_before_a_place(self):
        things = [blank(5, 9, 9), place(3), box(1)]
        self.assertEqual(placed(3, -1, 1, things), [0])
        self.assertEqual(placed(4, -1, 1, things), [0])
        self.assertEqual(placed(2, -1, 1, things), [-1])
        self.assertEqual(placed(0, -1, 0, [place(0)]), [0])
        self.assertEqual(placed(0, -1, 0, [place(1)]), [-1])

    def test_the_end_at_a_place_has_its_width(self):
        things = [box(4), blank(1, 2, 1), box(2), place(3), box(5)]
        self.assertEqual(placed(10, -1, 3, things), [3, 0, 4, 5])
        self.assertEqual(placed(11, -1, 3, things), [3, 0, 4, 6])
        self.assertEqual(placed(9, -1, 3, things), [3, 0, 4, 4])
        self.assertEqual(placed(8, -1, 3, things), [-1])

    def test_a_place_within_takes_nothing(self):
        things = [box(4), place(3, -10000, 1), box(2), place(1000000, 10000), box(5)]
        self.assertEqual(placed(11, -1, 5, things), [5, 0, 4, 4, 6, 6])
        self.assertEqual(placed(10, -1, 5, things), [-1])

    def test_the_end_at_what_is_no_place_adds_nothing(self):
        things = [box(4), blank(3, 9, 9), box(2)]
        self.assertEqual(placed(4, -1, 1, things), [1, 0])
        self.assertEqual(placed(7, -1, 2, things), [2, 0, 4])
        self.assertEqual(placed(3, -1, 1, things), [-1])

    def test_the_end_n_adds_nothing(self):
        self.assertEqual(placed(6, -1, 2, [box(4), box(2)]), [2, 0, 4])
        self.assertEqual(placed(4, -1, 2, [box(4), place(3)]), [2, 0, 4])

    def test_what_a_and_b_of_others_than_blanks_say_is_not_counted(self):
        things = [box(4, 50, 50), blank(2, 3, 3), place(0, 7, 1), box(3, 50, 50), place(0, -10, 1), blank(1, 3, 3)]
        self.assertEqual(placed(16, -1, 6, things), [6, 0, 4, 9, 9, 12, 12])
        self.assertEqual(placed(4, -1, 6, things), [6, 0, 4, 3, 3, 6, 6])
        self.assertEqual(placed(3, -1, 6, things), [-1])


class TheWidth(unittest.TestCase):
    def test_fits_exactly(self):
        things = [box(5), blank(2, 3, 4), box(5)]
        self.assertEqual(placed(12, -1, 3, things), [3, 0, 5, 7])

    def test_fits_exactly_with_blanks_that_give_nothing(self):
        self.assertEqual(placed(12, -1, 3, [box(5), blank(2), box(5)]), [3, 0, 5, 7])

    def test_shorter(self):
        things = [box(5), blank(2, 3, 0), box(5), blank(2, 1, 0), box(1)]
        self.assertEqual(placed(19, -1, 5, things), [5, 0, 5, 10, 15, 18])

    def test_shorter_by_far_more_than_its_blanks_can_give(self):
        self.assertEqual(placed(1000000000, -1, 3, [box(0), blank(0, 1, 0), box(0)]), [3, 0, 0, 1000000000])

    def test_shorter_with_s_0(self):
        things = [box(5), blank(2, 0, 9), box(5), blank(2, 0, 9), box(1)]
        self.assertEqual(placed(100, -1, 5, things), [5, 0, 5, 7, 12, 14])
        self.assertEqual(placed(100, -1, 2, [box(5), box(6)]), [2, 0, 5])

    def test_longer(self):
        things = [box(5), blank(4, 0, 3), box(5), blank(4, 0, 1), box(1)]
        self.assertEqual(placed(18, -1, 5, things), [5, 0, 5, 9, 14, 17])
        self.assertEqual(placed(17, -1, 5, things), [5, 0, 5, 8, 13, 16])
        self.assertEqual(placed(16, -1, 5, things), [5, 0, 5, 7, 12, 15])
        self.assertEqual(placed(15, -1, 5, things), [5, 0, 5, 6, 11, 14])

    def test_longer_than_it_can_be(self):
        things = [box(5), blank(4, 9, 3), box(5), blank(4, 9, 1), box(1)]
        self.assertEqual(placed(14, -1, 5, things), [-1])
        self.assertEqual(placed(0, -1, 5, things), [-1])

    def test_longer_with_s_0(self):
        self.assertEqual(placed(11, -1, 3, [box(5), blank(2, 9, 0), box(5)]), [-1])
        self.assertEqual(placed(9, -1, 1, [box(10)]), [-1])

    def test_narrower_than_nothing(self):
        # No word of the document keeps a blank from being narrower than it is wide.
        things = [box(1), blank(0, 0, 9), box(5), blank(5, 0, 0), box(0)]
        self.assertEqual(placed(7, -1, 5, things), [5, 0, 1, -3, 2, 7])

    def test_great_numbers(self):
        things = [box(MILLION), blank(MILLION, MILLION, MILLION)] * 250
        found = placed(1000000000, -1, 500, things)
        self.assertEqual(found[:5], [500, 0, MILLION, 4 * MILLION, 5 * MILLION])
        self.assertEqual(found[500], 1000000000 - 3 * MILLION)
        found = placed(250 * MILLION, -1, 500, things)
        self.assertEqual(found[:5], [500, 0, MILLION, MILLION, 2 * MILLION])
        self.assertEqual(placed(250 * MILLION - 1, -1, 500, things), [-1])

    def test_width_0(self):
        self.assertEqual(placed(0, -1, 1, [box(0)]), [1, 0])
        self.assertEqual(placed(0, -1, 1, [box(1)]), [-1])
        self.assertEqual(placed(0, -1, 2, [box(0), blank(3, 0, 3)]), [2, 0, 0])


class Rounding(unittest.TestCase):
    def test_wider_by_parts_rounded_down(self):
        things = [box(0), blank(0, 1), box(0), blank(0, 1), box(0), blank(0, 1), box(0)]
        self.assertEqual(placed(10, -1, 7, things), [7, 0, 0, 3, 3, 6, 6, 10])
        self.assertEqual(placed(11, -1, 7, things), [7, 0, 0, 3, 3, 7, 7, 11])
        self.assertEqual(placed(2, -1, 7, things), [7, 0, 0, 0, 0, 1, 1, 2])

    def test_narrower_by_parts_rounded_down(self):
        things = [box(0), blank(9, 0, 5), box(0), blank(9, 0, 5), box(0), blank(9, 0, 5), box(0)]
        self.assertEqual(placed(17, -1, 7, things), [7, 0, 0, 6, 6, 12, 12, 17])
        self.assertEqual(placed(16, -1, 7, things), [7, 0, 0, 6, 6, 11, 11, 16])
        self.assertEqual(placed(26, -1, 7, things), [7, 0, 0, 9, 9, 18, 18, 26])

    def test_parts_by_what_each_can_give(self):
        things = [box(0), blank(1, 1), blank(1, 0), blank(1, 2), blank(1, 4), box(0)]
        self.assertEqual(placed(4 + 5, -1, 6, things), [6, 0, 0, 1, 2, 5, 9])

    def test_every_short_line(self):
        some = [box(2, 5, 5), blank(3, 1, 2), blank(1, 2, 1), place(2, 5, 1)]
        for n in range(0, 5):
            for things in itertools.product(some, repeat=n):
                calls = [(width, i, j, things) for width in (0, 3, 4, 6, 7, 9, 14)
                         for j in (n - 1, n) if j >= 0 for i in (-1, 0) if i < j]
                found = ask(begin(), *[places(*call) for call in calls])
                for call, answer in zip(calls, found[1:]):
                    self.assertEqual(answer, expected_places(*call), call)


class BesideTheOtherCalls(unittest.TestCase):
    def test_it_leaves_the_patterns(self):
        fits = places(3, -1, 1, [box(3)])
        refused = places(2, -1, 1, [box(3)])
        found = ask(begin(), patterns("a1b"), fits, refused, parted(1, 1, "ab"))
        self.assertEqual(found, [[0], [1], [1, 0], [-1], [1, 1, 0]])


if __name__ == "__main__":
    unittest.main()
