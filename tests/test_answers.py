"""The interface, and what is promised of every asking."""

import unittest
from unittest import mock

from partlinedesk.setting import answers

# begin; patterns "a1b"; parted 1 1 "ab"; parted 0 1 "ab"; places; begin; patterns "A"
CALLS = [0] + [1, 3, 97, 49, 98] + [2, 1, 1, 2, 97, 98] + [2, 0, 1, 2, 97, 98]
CALLS += [4, 10, -1, 3, 12, 0, 3, 0, 0, 1, 1, 5, 5, 0, 2, 0, 0] + [0] + [1, 1, 65]
GIVEN = [1, 0] + [1, 1] + [3, 1, 1, 0] + [1, -1] + [4, 3, 0, 3, 8] + [1, 0] + [1, -1]


class OnlyRead(list):
    """A list that no call may change, not for a while either."""

    def refuse(self, *args, **named):
        raise AssertionError("what was handed in was changed")

    __setitem__ = __delitem__ = __iadd__ = __imul__ = refuse
    append = extend = insert = pop = remove = clear = sort = reverse = refuse


class Answers(unittest.TestCase):
    def test_how_they_lie_in_the_list(self):
        self.assertEqual(answers(list(CALLS)), GIVEN)

    def test_they_are_a_new_list_of_whole_numbers(self):
        given = answers(list(CALLS))
        self.assertIs(type(given), list)
        self.assertEqual({type(number) for number in given}, {int})

    def test_rows_of_no_number(self):
        self.assertEqual(answers([0, 1, 0, 2, 1, 1, 0, 4, 5, -1, 0, 0]), [1, 0, 1, 0, 1, -1, 1, 0])

    def test_what_is_handed_in_is_not_changed(self):
        self.assertEqual(answers(OnlyRead(CALLS)), GIVEN)

    def test_a_second_time_answers_like_the_first(self):
        handed = list(CALLS)
        first = answers(handed)
        first.append(5)
        self.assertEqual(answers(handed), GIVEN)
        self.assertEqual(answers(handed), GIVEN)
        self.assertEqual(handed, CALLS)

    def test_each_time_has_a_new_object(self):
        answers([0, 1, 3, 97, 49, 98])
        self.assertEqual(answers([2, 1, 1, 2, 97, 98]), [3, 0, 0, 0])

    def test_nothing_is_printed_read_or_imported(self):
        def refuse(*args, **named):
            raise AssertionError("printed, read or imported")

        with mock.patch("builtins.print", refuse), mock.patch("builtins.open", refuse), \
                mock.patch("builtins.input", refuse), mock.patch("sys.stdin", None), \
                mock.patch("builtins.__import__", refuse):
            given = answers(list(CALLS))
        self.assertEqual(given, GIVEN)

    def test_the_longest_lists(self):
        texts = [1, 5000] + [97, 32] * 2500
        things = [4, 1000, -1, 500, 2000] + [0, 1, 0, 0, 1, 1, 1, 1] * 250
        given = answers([0] + texts * 3 + things * 7)
        self.assertEqual(given[:8], [1, 0, 1, 2500, 1, 2500, 1, 2500])
        self.assertEqual(len(given), 8 + 7 * 502)
        self.assertEqual(given[8:14], [501, 500, 0, 1, 4, 5])


if __name__ == "__main__":
    unittest.main()
