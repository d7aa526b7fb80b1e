"""Promises [2] and [3]: LONGEST, NAMEs and TEXTs."""

import unittest

from sheafbooks import words


class Words(unittest.TestCase):
    def test_longest(self):
        self.assertEqual(words.LONGEST, 400)
        self.assertIs(type(words.LONGEST), int)

    def test_names(self):
        for name in ("a", "z", "abcdefgh", "zzzzzzzz", "sec"):
            self.assertIs(words.is_name(name), True, name)
        for name in ("", "abcdefghi", "A", "aB", "a1", "1", "a_b", "a-b", "a b", " a", "a\n", "\u00e4", "`", "{", "a%"):
            self.assertIs(words.is_name(name), False, name)
        for thing in (None, True, False, 1, [], (), ["a"], ("a",), b"a"):
            self.assertIs(words.is_name(thing), False, thing)

    def test_names_or_bare(self):
        for thing, wanted in (("", True), ("a", True), ("A", False), (None, False), ((), False), (0, False)):
            self.assertIs(words.is_name_or_bare(thing), wanted, thing)

    def test_texts(self):
        for text in ("", " ", "~", "a" * 40, "!\"#$&'()*+,-./09:;<=>?@AZ[\\]^_`az{|}", "  "):
            self.assertIs(words.is_text(text), True, text)
        for text in ("a" * 41, "%", "a%b", "\n", "a\n", "\t", "\x1f", "\x7f", "\u00e4", "\x80", "\x00"):
            self.assertIs(words.is_text(text), False, text)
        for thing in (None, True, False, 1, [], (), ["a"], ("a",)):
            self.assertIs(words.is_text(thing), False, thing)
        self.assertIs(words.is_text("a" * 20, 20), True)
        self.assertIs(words.is_text("a" * 21, 20), False)

    def test_every_sign(self):
        for number in range(300):
            wanted = 32 <= number <= 126 and number != 37
            self.assertIs(words.is_text(chr(number)), wanted, number)
            self.assertIs(words.is_name(chr(number)), 97 <= number <= 122, number)

    def test_rises(self):
        for row, wanted in (([], True), (["a"], True), (("a", "b"), True), (("a", "a"), False), (("b", "a"), False),
                            (("a", "b", "b"), False), (("a", "aa", "b"), True), (("b", "a", "c"), False)):
            self.assertIs(words.rises(row), wanted, row)

    def test_unlike(self):
        for row, wanted in (([], True), (["a"], True), (["a", "b"], True), (["a", "b", "a"], False), (["", ""], False)):
            self.assertIs(words.are_unlike(row), wanted, row)


if __name__ == "__main__":
    unittest.main()
