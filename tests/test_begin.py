"""Point 1."""

import unittest

from tests.helper import ask, begin, parted, patterns


class Begin(unittest.TestCase):
    def test_answers_zero(self):
        self.assertEqual(ask(begin()), [[0]])

    def test_answers_zero_each_time(self):
        self.assertEqual(ask(begin(), begin(), begin()), [[0], [0], [0]])

    def test_there_are_no_patterns_at_first(self):
        self.assertEqual(ask(begin(), parted(1, 1, "abc")), [[0], [0, 0, 0, 0]])

    def test_again_leaves_no_patterns(self):
        found = ask(begin(), patterns("a1b"), parted(1, 1, "ab"), begin(), parted(1, 1, "ab"))
        self.assertEqual(found, [[0], [1], [1, 1, 0], [0], [0, 0, 0]])

    def test_patterns_can_be_taken_after_a_second_begin(self):
        found = ask(begin(), patterns("a1b"), begin(), patterns("b1c"), parted(1, 1, "abc"))
        self.assertEqual(found, [[0], [1], [0], [1], [1, 0, 1, 0]])

    def test_a_hundred_calls(self):
        self.assertEqual(ask(*[begin()] * 100), [[0]] * 100)


if __name__ == "__main__":
    unittest.main()
