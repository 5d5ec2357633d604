"""Words, names, literals, written forms, labels and paths [3, 9, 19]."""

import unittest

from quickways.errors import BadText
from quickways.names import is_literal, is_name, is_word, label_of, read_value, show_value, task_text


class TestWordsAndNames(unittest.TestCase):
    def test_words(self):
        for text in ("a", "z", "red", "abcdef", "any", "lent", "word"):
            self.assertIs(is_word(text), True, text)
        for text in ("", "abcdefg", "A", "aB", "a1", "1", "'a", " a", "a ", "a b", "-", "`", "{", "a\n"):
            self.assertIs(is_word(text), False, text)

    def test_names(self):
        for text in ("a", "z", "x1", "a00000", "abcdef", "a9b8c7", "anyx", "nat1", "an", "lend"):
            self.assertIs(is_name(text), True, text)
        for text in ("", "abcdefg", "a000000", "1", "1a", "A", "xA", "x_", "x y", " x", "x-", "x:", "x/", "-x"):
            self.assertIs(is_name(text), False, text)

    def test_reserved_strings_are_no_names(self):
        for text in ("any", "num", "nat", "small", "digit", "bit", "word", "lent"):
            self.assertIs(is_name(text), False, text)

    def test_literals(self):
        for value in (-99, -1, 0, 1, 99, "a", "abcdef", "any"):
            self.assertIs(is_literal(value), True, value)
        for value in (-100, 100, 10 ** 30, -10 ** 30, "", "abcdefg", "a1", "A"):
            self.assertIs(is_literal(value), False, value)


class TestWrittenForms(unittest.TestCase):
    def test_show(self):
        told = {0: "0", -5: "-5", 99: "99", -100: "-100", 10: "10", "red": "'red", "a": "'a"}
        for value, text in told.items():
            self.assertEqual(show_value(value), text)

    def test_show_long_integers(self):
        for length in (59, 60, 61, 119, 120, 121, 4400, 10000):
            self.assertEqual(show_value(10 ** length), "1" + "0" * length)
            self.assertEqual(show_value(-(10 ** length)), "-1" + "0" * length)
            self.assertEqual(show_value(10 ** length - 1), "9" * length)
        self.assertEqual(show_value(12 * 10 ** 70 + 34), "12" + "0" * 68 + "34")

    def test_read_gives_each_literal_back(self):
        for value in range(-99, 100):
            got = read_value(show_value(value))
            self.assertEqual(got, value)
            self.assertIs(type(got), int)
        for value in ("a", "z", "red", "abcdef", "any", "lent"):
            self.assertEqual(read_value(show_value(value)), value)

    def test_read_refuses_other_texts(self):
        wrong = ("", "-", "-0", "00", "007", "07", "-05", "+5", "--5", "5-", "100", "-100", "1000", " 5", "5 ",
                 "5\n", "1_0", "5.", "0x1", "'", "''", "'abcdefg", "'A", "'a1", "' a", "'a ", "a", "red", "''a",
                 "-'a", "'5", " ", "\u0665", "'\u00e4")
        for text in wrong:
            for line in (1, 7):
                with self.subTest(text, line=line):
                    with self.assertRaises(BadText) as caught:
                        read_value(text, line)
                    self.assertEqual(caught.exception.line, line)
            with self.assertRaises(BadText) as caught:
                read_value(text)
            self.assertEqual(caught.exception.line, 1)

    def test_labels_and_paths(self):
        self.assertEqual(label_of("f", 3), "f.3")
        self.assertEqual(label_of("main", 16), "main.16")
        self.assertEqual(task_text(()), "0")
        self.assertEqual(task_text((2, 1)), "0.2.1")
        self.assertEqual(task_text((10, 3, 12)), "0.10.3.12")


if __name__ == "__main__":
    unittest.main()
