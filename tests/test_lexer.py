"""Point 10: the marks of a text."""

import random
import re
import unittest

from saidatonce.lexer import marks_in


def marks_by_pattern(text):
    found = []
    for line, row in enumerate(re.split("(?<=\n)", text)):
        for match in re.finditer("[a-z]+|[0-9]+|[^ ]", row, re.DOTALL):
            found.append((line, match.start(), match.group()))
    return tuple(found)


class LexerTest(unittest.TestCase):
    def test_no_marks(self):
        self.assertEqual(marks_in(""), ())
        self.assertEqual(marks_in(" "), ())
        self.assertEqual(marks_in("     "), ())

    def test_letters_and_digits(self):
        self.assertEqual(marks_in("a"), ((0, 0, "a"),))
        self.assertEqual(marks_in("tea"), ((0, 0, "tea"),))
        self.assertEqual(marks_in("az09"), ((0, 0, "az"), (0, 2, "09")))
        self.assertEqual(marks_in("12tea007cup"), ((0, 0, "12"), (0, 2, "tea"), (0, 5, "007"), (0, 8, "cup")))
        self.assertEqual(marks_in("abcdefghijklmnopqrstuvwxyz"), ((0, 0, "abcdefghijklmnopqrstuvwxyz"),))
        self.assertEqual(marks_in("0123456789"), ((0, 0, "0123456789"),))

    def test_blanks(self):
        self.assertEqual(marks_in("  tea   cup  7 "), ((0, 2, "tea"), (0, 8, "cup"), (0, 13, "7")))

    def test_single_signs(self):
        self.assertEqual(marks_in("--"), ((0, 0, "-"), (0, 1, "-")))
        self.assertEqual(marks_in("-3"), ((0, 0, "-"), (0, 1, "3")))
        self.assertEqual(marks_in("a_b"), ((0, 0, "a"), (0, 1, "_"), (0, 2, "b")))
        self.assertEqual(marks_in("~!~"), ((0, 0, "~"), (0, 1, "!"), (0, 2, "~")))

    def test_signs_beside_letters_and_digits(self):
        for sign in "`{/:@[!~.,":
            text = "a" + sign + "z" + sign + "0" + sign + "9"
            marks = tuple((0, at, one) for at, one in enumerate(text))
            self.assertEqual(marks_in(text), marks)
            self.assertEqual(marks_in(sign * 3), tuple((0, at, sign) for at in range(3)))

    def test_capital_letters_are_single_signs(self):
        self.assertEqual(marks_in("TEa"), ((0, 0, "T"), (0, 1, "E"), (0, 2, "a")))
        self.assertEqual(marks_in("AAZZ"), ((0, 0, "A"), (0, 1, "A"), (0, 2, "Z"), (0, 3, "Z")))
        self.assertEqual(marks_in("aB"), ((0, 0, "a"), (0, 1, "B")))

    def test_newlines(self):
        self.assertEqual(marks_in("\n"), ((0, 0, "\n"),))
        self.assertEqual(marks_in("\n\n"), ((0, 0, "\n"), (1, 0, "\n")))
        self.assertEqual(marks_in("tea 7\ncup"), ((0, 0, "tea"), (0, 4, "7"), (0, 5, "\n"), (1, 0, "cup")))
        self.assertEqual(marks_in("a\n"), ((0, 0, "a"), (0, 1, "\n")))
        self.assertEqual(marks_in("a  \n b"), ((0, 0, "a"), (0, 3, "\n"), (1, 1, "b")))
        self.assertEqual(marks_in("a\nb\n\nc"), (
            (0, 0, "a"), (0, 1, "\n"), (1, 0, "b"), (1, 1, "\n"), (2, 0, "\n"), (3, 0, "c"),
        ))

    def test_a_newline_ends_a_run(self):
        self.assertEqual(marks_in("ab\nab"), ((0, 0, "ab"), (0, 2, "\n"), (1, 0, "ab")))
        self.assertEqual(marks_in("12\n12"), ((0, 0, "12"), (0, 2, "\n"), (1, 0, "12")))

    def test_all_signs(self):
        text = "".join(chr(code) for code in range(32, 127))
        self.assertEqual(marks_in(text), marks_by_pattern(text))
        self.assertEqual(marks_in(text[::-1]), marks_by_pattern(text[::-1]))

    def test_texts_by_a_pattern(self):
        chance = random.Random(10)
        for _ in range(400):
            text = "".join(chance.choice("abz019 -\n\n A") for _ in range(chance.randint(0, 30)))
            self.assertEqual(marks_in(text), marks_by_pattern(text))

    def test_by_name(self):
        self.assertEqual(marks_in(text="a1"), ((0, 0, "a"), (0, 1, "1")))


if __name__ == "__main__":
    unittest.main()
