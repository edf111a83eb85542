"""Point 3, and "Patterns", second paragraph."""

import itertools
import random
import unittest

from partlinedesk.parting import can_be_asked
from tests.helper import ask, ask_last, begin, parted, patterns

LEAST, MOST = -2147483648, 2147483647


def marks(text, word, left=1, right=1):
    """The answer, its marks as a text of 0s and 1s."""
    found = ask_last(patterns(text), parted(left, right, word))
    assert found[0] == sum(found[1:]), "the count is not that of the 1s"
    return "".join(str(mark) for mark in found[1:])


def expected_marks(text, word, left, right):
    """The document's words once more: every pattern is laid at every spot."""
    dotted = "." + word.lower() + "."
    greatest = [0] * (len(dotted) + 1)
    for pattern in text.split():
        signs = "".join(sign for sign in pattern if not sign.isdigit())
        for start in range(len(dotted)):
            if not dotted.startswith(signs, start):
                continue
            gap = start
            for sign in pattern:
                if sign.isdigit():
                    greatest[gap] = max(greatest[gap], int(sign))
                else:
                    gap += 1
    found = ""
    for k in range(len(word)):
        fits = k + 1 < len(word) and k + 1 >= left and len(word) - k - 1 >= right
        found += str(greatest[k + 2] % 2) if fits else "0"
    return found


class Parted(unittest.TestCase):
    def test_an_ordinary_word(self):
        text = "hy3ph he2n hena4 hen5at 1na n2at 1tio 2io o2n"
        self.assertEqual(ask_last(patterns(text), parted(1, 1, "hyphenation")),
                         [2, 0, 1, 0, 0, 0, 1, 0, 0, 0, 0, 0])

    def test_without_patterns(self):
        self.assertEqual(ask_last(parted(1, 1, "hyphen")), [0, 0, 0, 0, 0, 0, 0])

    def test_the_count_comes_first(self):
        self.assertEqual(ask_last(patterns("1a1"), parted(1, 1, "aaa")), [2, 1, 1, 0])

    def test_capitals_are_made_small(self):
        for word in ("abc", "ABC", "aBc", "Abc", "abC"):
            self.assertEqual(marks("a1b", word), "100", word)
        self.assertEqual(marks("a1z", "AZ"), "10")
        self.assertEqual(marks("z1a", "ZA"), "10")

    def test_odd_and_even(self):
        for digit in range(10):
            self.assertEqual(marks(f"a{digit}b", "ab"), "10" if digit % 2 else "00")

    def test_no_digit_stands_for_0(self):
        self.assertEqual(marks("ab", "ab"), "00")
        self.assertEqual(marks("ab a1b", "ab"), "10")

    def test_the_greatest_counts(self):
        self.assertEqual(marks("a1b a2b", "ab"), "00")
        self.assertEqual(marks("a2b a1b", "ab"), "00")
        self.assertEqual(marks("a3b a2b", "ab"), "10")
        self.assertEqual(marks("a2b a3b", "ab"), "10")
        self.assertEqual(marks("a1 2b", "ab"), "00")
        self.assertEqual(marks("a1 2b 3b a0", "ab"), "10")
        self.assertEqual(marks("a1bc ab2c b1c", "abc"), "100")
        self.assertEqual(marks("a9 8b xa9b", "ab"), "10")

    def test_the_same_signs_with_digits_at_other_gaps(self):
        self.assertEqual(marks("a1bc ab1c", "abc"), "110")
        self.assertEqual(marks("1abc a1bc abc", "abc"), "100")

    def test_wherever_the_pattern_stands(self):
        self.assertEqual(marks("a1b", "ababab"), "101010")
        self.assertEqual(marks("a1a", "aaaa"), "1110")
        self.assertEqual(marks("aa1a", "aaaa"), "0110")
        self.assertEqual(marks("a1b", "ba"), "00")

    def test_digits_at_a_pattern_s_own_ends(self):
        self.assertEqual(marks("1b", "abc"), "100")
        self.assertEqual(marks("b1", "abc"), "010")
        self.assertEqual(marks("1b1", "abc"), "110")

    def test_a_dot_before(self):
        self.assertEqual(marks(".a1", "aaa"), "100")
        self.assertEqual(marks(".a1b", "abab"), "1000")
        self.assertEqual(marks(".b1", "ab"), "00")

    def test_a_dot_behind(self):
        self.assertEqual(marks("1a.", "aaa"), "010")
        self.assertEqual(marks("a1b.", "abab"), "0010")
        self.assertEqual(marks("1a.", "ab"), "00")

    def test_dots_at_both_ends(self):
        self.assertEqual(marks(".a1b.", "ab"), "10")
        self.assertEqual(marks(".a1b.", "abb"), "000")
        self.assertEqual(marks(".a1b.", "aab"), "000")

    def test_gaps_beside_the_dots_and_the_ends_never_part(self):
        self.assertEqual(marks("1.a a.1", "a"), "0")
        self.assertEqual(marks(".1a a1.", "a"), "0")
        self.assertEqual(marks("1a1", "a"), "0")
        self.assertEqual(marks("1.1a1b1.1", "ab"), "10")

    def test_a_pattern_longer_than_the_word(self):
        self.assertEqual(marks("a1bcd", "abc"), "000")

    def test_a_pattern_of_32_signs(self):
        self.assertEqual(marks("a" * 31 + "1b", "a" * 31 + "b"), "0" * 30 + "10")
        self.assertEqual(marks("." + "a" * 30 + "1.", "a" * 30), "0" * 30)
        self.assertEqual(marks(".a1" + "a" * 30, "a" * 31), "1" + "0" * 30)
        self.assertEqual(marks("a1" + "a" * 30 + ".", "a" * 64), "0" * 33 + "1" + "0" * 30)
        self.assertEqual(marks("a" * 31 + "1a", "a" * 64), "0" * 30 + "1" * 33 + "0")

    def test_patterns_change_nothing_by_being_used(self):
        found = ask(begin(), patterns("a1b b2a"), parted(1, 1, "ab"), parted(1, 1, "bab"), parted(1, 1, "ab"))
        self.assertEqual(found, [[0], [2], [1, 1, 0], [1, 0, 1, 0], [1, 1, 0]])


class LeftAndRight(unittest.TestCase):
    def test_at_least_left_before(self):
        for left in range(1, 65):
            expected = "".join("1" if before >= left else "0" for before in (1, 2, 3, 4)) + "0"
            self.assertEqual(marks("1a", "aaaaa", left=left), expected, left)

    def test_at_least_right_behind(self):
        for right in range(1, 65):
            expected = "".join("1" if behind >= right else "0" for behind in (4, 3, 2, 1)) + "0"
            self.assertEqual(marks("1a", "aaaaa", right=right), expected, right)

    def test_both(self):
        self.assertEqual(marks("1a", "aaaaa", 2, 2), "01100")
        self.assertEqual(marks("1a", "aaaaa", 3, 2), "00100")
        self.assertEqual(marks("1a", "aaaaa", 3, 3), "00000")
        self.assertEqual(marks("1a", "aaaaa", 2, 3), "01000")

    def test_64_letters(self):
        word = "a" * 64
        self.assertEqual(marks("1a", word), "1" * 63 + "0")
        self.assertEqual(marks("1a", word, 63, 1), "0" * 62 + "10")
        self.assertEqual(marks("1a", word, 1, 63), "1" + "0" * 63)
        self.assertEqual(marks("1a", word, 32, 32), "0" * 31 + "1" + "0" * 32)
        self.assertEqual(marks("1a", word, 64, 1), "0" * 64)
        self.assertEqual(marks("1a", word, 1, 64), "0" * 64)
        self.assertEqual(marks("1a", word, 64, 64), "0" * 64)

    def test_out_of_bounds(self):
        for wrong in (0, 65, -1, -64, 66, 1000, LEAST, MOST):
            for fine in (1, 2, 64):
                self.assertEqual(ask_last(patterns("1a"), parted(wrong, fine, "aaa")), [-1], wrong)
                self.assertEqual(ask_last(patterns("1a"), parted(fine, wrong, "aaa")), [-1], wrong)
            self.assertEqual(ask_last(patterns("1a"), parted(wrong, wrong, "aaa")), [-1], wrong)


class Words(unittest.TestCase):
    def test_of_no_byte(self):
        self.assertEqual(ask_last(patterns("1a"), parted(1, 1, "")), [-1])

    def test_of_one_byte(self):
        self.assertEqual(ask_last(patterns("1a1"), parted(1, 1, "a")), [0, 0])
        self.assertEqual(ask_last(parted(64, 64, "Z")), [0, 0])

    def test_of_64_bytes(self):
        self.assertEqual(ask_last(parted(1, 1, "z" * 64)), [0] + [0] * 64)

    def test_every_byte_that_is_no_letter(self):
        letters = list(range(65, 91)) + list(range(97, 123))
        for byte in range(256):
            for word in ([byte], [97, byte], [byte, 97], [97] * 63 + [byte]):
                expected = [0] + [0] * len(word) if byte in letters else [-1]
                self.assertEqual(ask_last(parted(1, 1, word)), expected, word)

    def test_after_a_refusal_the_patterns_are_there(self):
        found = ask(begin(), patterns("a1b"), parted(0, 1, "ab"), parted(1, 1, "a.b"), parted(1, 1, "ab"))
        self.assertEqual(found, [[0], [1], [-1], [-1], [1, 1, 0]])


# A word of calls has 64 bytes at most, so this edge is out of its reach.
class BeyondTheInterface(unittest.TestCase):
    def test_64_letters_and_one_more(self):
        self.assertTrue(can_be_asked(1, 1, [97] * 64))
        self.assertFalse(can_be_asked(1, 1, [97] * 65))


class AgainstTheWords(unittest.TestCase):
    def test_all_short_words_under_fixed_patterns(self):
        text = ".a1 a2b .b3a1 1aa2 b1b. 4ab3. 2bb1a .a5b5a. 1b 6b3b6b"
        for length in range(1, 7):
            for signs in itertools.product("aB", repeat=length):
                word = "".join(signs)
                self.assertEqual(marks(text, word), expected_marks(text, word, 1, 1), word)

    def test_many_patterns_and_words(self):
        choose = random.Random(7)
        for _ in range(150):
            words = []
            for _ in range(choose.randrange(1, 40)):
                signs = [choose.choice("ab") for _ in range(choose.randrange(1, 6))]
                word = choose.choice(["", "", "."]) + "".join(signs) + choose.choice(["", "", "."])
                words.append("".join(choose.choice(["", "", "0123456789"[choose.randrange(10)]]) + s for s in word)
                             + choose.choice(["", "5", "2"]))
            text = choose.choice([" ", "\n", "  "]).join(words)
            word = "".join(choose.choice("abAB") for _ in range(choose.randrange(1, 65)))
            left, right = choose.randrange(1, 5), choose.randrange(1, 5)
            self.assertEqual(marks(text, word, left, right), expected_marks(text, word, left, right), (text, word))

    def test_the_most_patterns_and_the_most_calls(self):
        word = "ab" * 32
        calls = [begin(), patterns("1a b " * 1000)] + [parted(1, 1, word)] * 98
        found = ask(*calls)
        self.assertEqual(found[1], [2000])
        self.assertEqual(found[2:], [[31] + [0, 1] * 31 + [0, 0]] * 98)


if __name__ == "__main__":
    unittest.main()
