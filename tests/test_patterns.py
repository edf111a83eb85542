"""Point 2, and "Patterns", first paragraph."""

import itertools
import re
import unittest

from partlinedesk.patterns import is_text_of_patterns
from tests.helper import ask, ask_last, begin, parted, patterns

# The document's words once more, written another way than in the program.
PATTERN = re.compile(r"[0-9]?(\.[0-9]?)?([a-z][0-9]?)+(\.[0-9]?)?")


def taken(text):
    return ask_last(patterns(text))


class Taken(unittest.TestCase):
    def check(self, count, text):
        self.assertEqual(taken(text), [count], text[:80])

    def test_ordinary_texts(self):
        self.check(1, "a")
        self.check(1, "a1b")
        self.check(3, "hy3ph he2n hena4")
        self.check(4, "a1b c2d\ne3f\n\n  g4h")

    def test_the_same_word_counts_each_time(self):
        self.check(3, "a1b a1b a1b")

    def test_texts_without_words(self):
        for text in ("", " ", "\n", "   ", "\n\n", " \n \n"):
            self.check(0, text)

    def test_blanks_and_line_feeds_at_the_ends(self):
        self.check(2, " \na1b\n c ")
        self.check(2, "\na1b\nc\n")

    def test_dots_before_behind_and_both(self):
        for word in (".a", "a.", ".a.", ".abc.", "1.2a3.4", "1.a", "a.1", ".1a", "a1."):
            self.check(1, word)

    def test_digits_before_between_and_behind(self):
        for word in ("1a", "a1", "1a2", "1a2b3", "0a0b0", "9a", "a9b", "1.2a3b4.5"):
            self.check(1, word)

    def test_32_letters_and_dots(self):
        self.check(1, "a" * 32)
        self.check(1, "." + "a" * 31)
        self.check(1, "a" * 31 + ".")
        self.check(1, "." + "a" * 30 + ".")
        self.check(1, "1" + "a2" * 32)
        self.check(1, "1.2" + "a3" * 30 + ".4")

    def test_5000_bytes_with_the_most_words(self):
        self.check(2500, "a " * 2500)
        self.check(2500, "\na" * 2500)
        self.check(2500, " ".join("abcdefghij"[k % 10] for k in range(2500)) + "\n")

    def test_5000_bytes_without_words(self):
        self.check(0, " " * 5000)

    def test_5000_bytes_of_long_words(self):
        text = (("a1" * 32 + " ") * 77)[:5000]
        self.assertEqual(len(text), 5000)
        self.check(77, text)


class Refused(unittest.TestCase):
    def check(self, text):
        self.assertEqual(taken(text), [-1], text[:80])

    def test_dots_within(self):
        for word in ("a.b", ".a.b", "a.b.", ".a.b.", "a1.b", "a.1b"):
            self.check(word)

    def test_two_dots_at_an_end(self):
        for word in ("..a", "a..", "..a..", ".1.a", "a.1."):
            self.check(word)

    def test_no_letter(self):
        for word in (".", "..", "...", "1", "0", "1.", ".1", "1.2", ".1.", "1.2.3"):
            self.check(word)

    def test_two_digits_in_a_row(self):
        for word in ("11a", "a11", "a12b", "a00b", ".12a", "a.12", "12.a", "a12."):
            self.check(word)

    def test_capitals(self):
        for word in ("A", "aB", "Ab", ".Z.", "a1Z"):
            self.check(word)

    def test_every_byte_beside_a_letter(self):
        fine = [10, 32, 46] + list(range(48, 58)) + list(range(97, 123))
        for byte in range(256):
            expected = -1
            if byte in fine:
                expected = 1
            self.assertEqual(taken([97, byte]), [expected], byte)
            self.assertEqual(taken([byte, 97]), [expected], byte)

    def test_every_byte_alone(self):
        for byte in range(256):
            expected = -1
            if byte in (10, 32):
                expected = 0
            if 97 <= byte <= 122:
                expected = 1
            self.assertEqual(taken([byte]), [expected], byte)

    def test_33_letters_and_dots(self):
        self.check("a" * 33)
        self.check("." + "a" * 32)
        self.check("a" * 32 + ".")
        self.check("." + "a" * 31 + ".")
        self.check("a" * 5000)

    def test_one_wrong_word_among_others(self):
        for text in ("a1b B c1d", "A a1b c1d", "a1b c1d E", "a1b . c1d", "a1b\n12\nc"):
            self.check(text)
        self.check("a " * 2499 + ".")
        self.check("a " * 2499 + "A ")
        self.check("1 " + "a " * 2499)


class AgainstTheWords(unittest.TestCase):
    def test_every_short_word(self):
        for length in range(1, 6):
            for signs in itertools.product("a.1", repeat=length):
                word = "".join(signs)
                expected = 1 if PATTERN.fullmatch(word) else -1
                self.assertEqual(taken(word), [expected], word)

    def test_every_short_text(self):
        for signs in itertools.product("b.7 \nB", repeat=4):
            text = "".join(signs)
            words = text.split()
            expected = len(words) if all(PATTERN.fullmatch(word) for word in words) else -1
            self.assertEqual(taken(text), [expected], text)


# A text of calls has 5000 bytes at most, so these edges are out of its reach.
class BeyondTheInterface(unittest.TestCase):
    def test_4096_words_and_one_more(self):
        self.assertTrue(is_text_of_patterns([97, 32] * 4096))
        self.assertFalse(is_text_of_patterns([97, 32] * 4097))

    def test_262144_bytes_and_one_more(self):
        self.assertTrue(is_text_of_patterns([32] * 262144))
        self.assertFalse(is_text_of_patterns([32] * 262145))


class WhatCounts(unittest.TestCase):
    def test_after_a_refusal_those_from_before(self):
        for wrong in ("A", "b1c .", "b1c 11a", "a" * 33):
            found = ask(begin(), patterns("a1b"), patterns(wrong), parted(1, 1, "abc"))
            self.assertEqual(found, [[0], [1], [-1], [1, 1, 0, 0]], wrong)

    def test_after_a_refusal_at_first_none(self):
        found = ask(begin(), patterns("a1b B"), parted(1, 1, "ab"))
        self.assertEqual(found, [[0], [-1], [0, 0, 0]])

    def test_a_new_text_takes_the_place_of_the_old(self):
        found = ask(begin(), patterns("a1b"), patterns("b1c"), parted(1, 1, "abc"))
        self.assertEqual(found, [[0], [1], [1], [1, 0, 1, 0]])

    def test_a_text_without_words_too(self):
        for text in ("", " \n"):
            found = ask(begin(), patterns("a1b"), patterns(text), parted(1, 1, "abc"))
            self.assertEqual(found, [[0], [1], [0], [0, 0, 0, 0]])

    def test_nothing_is_kept_for_another_object(self):
        ask(begin(), patterns("a1b"))
        self.assertEqual(ask(begin(), parted(1, 1, "ab")), [[0], [0, 0, 0]])


if __name__ == "__main__":
    unittest.main()
