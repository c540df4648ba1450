"""Points 77 and 78: commands, and texts of them."""

import random
import unittest

from saidatonce.commands import is_command, read_commands, show_command, show_commands
from saidatonce.errors import InvalidText
from tests.odd import Sour, Yes, odd_values

MILLION = 10 ** 6

# for each word what stands behind it: n a name, or the bounds of an integer
FORMS = {
    "enter": ("n", (-MILLION, MILLION)),
    "more": ((1, 100),),
    "less": (),
    "tie": ("n", "n", (-1000, 1000)),
    "untie": ((0, 59),),
    "thing": ("n",),
    "name": ("n", "n"),
    "leave": ("n",),
    "times": (),
    "when": ("n",),
    "may": ("n", (-MILLION, MILLION)),
    "bear": ("n", "n", (-1000, 1000)),
    "promise": ((1, 100),),
}
NAMES = ("a", "z", "tea", "abcdef", "zzzzzz", "answer", "times", "may")
WRONG_NAMES = ("", "abcdefg", "A", "aB", "a1", "1", "a-b", "a_", "-", "caf\u00e9", "a\n", " a", "a ", "tea cup", "`", "{")


def right_items(form):
    """Some right items for a form."""
    if form == "n":
        return NAMES
    least, most = form
    return tuple(sorted({least, most, (least + most) // 2, least + 1, most - 1, max(least, 7)}))


def wrong_integers(form):
    least, most = form
    return (least - 1, most + 1, 10 ** 400, -10 ** 400, True, False, 5.0, "5", "a", None, (5,), [5], Sour(), Yes())


def all_commands():
    """A few commands for each word, with each right item at each place."""
    found = [("answer", ()), ("answer", ("a",)), ("answer", ("b", "a")), ("answer", ("a", "a")), ("answer", NAMES * 9)]
    for word, form in FORMS.items():
        items = [right_items(kind) for kind in form]
        found.append((word,) + tuple(some[0] for some in items))
        for at, some in enumerate(items):
            for item in some:
                found.append((word,) + tuple(item if at == n else other[-1] for n, other in enumerate(items)))
    return found


class CommandTest(unittest.TestCase):
    def test_right_ones(self):
        for command in all_commands():
            self.assertIs(is_command(command), True, command)
        self.assertIs(is_command(value=("less",)), True)
        self.assertIs(is_command(("tie", "a", "a", 0)), True)
        self.assertIs(is_command(("name", "a", "a")), True)
        self.assertIs(is_command(("bear", "a", "a", 0)), True)

    def test_too_few_and_too_many_items(self):
        for command in all_commands():
            for extra in ("a", 5, 1, (), None, ("a",)):
                self.assertIs(is_command(command + (extra,)), False)
            for at in range(1, len(command)):
                less = command[:at] + command[at + 1:]
                self.assertIs(is_command(less), False, less)
        self.assertIs(is_command(("answer", "a", "b")), False)
        self.assertIs(is_command(("answer",)), False)

    def test_each_wrong_item(self):
        for word, form in FORMS.items():
            items = tuple(right_items(kind)[0] for kind in form)
            for at, kind in enumerate(form):
                wrong = list(wrong_integers(kind)) if kind != "n" else list(WRONG_NAMES) + [0, b"a", ("a",), ["a"], Yes()]
                for item in wrong + [value for value in odd_values() if not isinstance(value, int)]:
                    self.assertIs(is_command((word,) + items[:at] + (item,) + items[at + 1:]), False)
                self.assertIs(is_command((word,) + items), True)

    def test_bounds(self):
        for word, form in FORMS.items():
            items = tuple(right_items(kind)[0] for kind in form)
            for at, kind in enumerate(form):
                if kind != "n":
                    for number in range(kind[0] - 2, kind[0] + 3):
                        right = number >= kind[0]
                        self.assertIs(is_command((word,) + items[:at] + (number,)), right)
                    for number in range(kind[1] - 2, kind[1] + 3):
                        right = number <= kind[1]
                        self.assertIs(is_command((word,) + items[:at] + (number,)), right)

    def test_names_of_answers(self):
        for names in odd_values() + ["a", "ab", ["a"], {"a": 1}, 5, None]:
            self.assertIs(is_command(("answer", names)), False)
        for name in list(WRONG_NAMES) + [0, 1, b"a", ("a",), ["a"], None, Sour(), Yes()]:
            self.assertIs(is_command(("answer", (name,))), False)
            self.assertIs(is_command(("answer", ("a", name))), False)
            self.assertIs(is_command(("answer", (name, "a"))), False)

    def test_other_words(self):
        for word in ("", "Enter", "enter ", " less", "LESS", "say", "ties", "les", "lesss", "answers", "run", "pair"):
            for items in ((), ("a",), ("a", 5), ((),), ("a", "b", 5), (5,)):
                self.assertIs(is_command((word,) + items), False)
        for word in odd_values() + [0, None, b"less", ("less",), ["less"]]:
            self.assertIs(is_command((word,)), False)
            self.assertIs(is_command((word, "a")), False)
            self.assertIs(is_command((word, ("a",))), False)

    def test_other_values(self):
        for value in odd_values() + [["less"], "less", (), {"less": 1}, 5, ("less", "less"), (("less",),)]:
            self.assertIs(is_command(value), False)


class ReadTest(unittest.TestCase):
    def invalid(self, line, text):
        with self.assertRaises(InvalidText) as caught:
            read_commands(text)
        self.assertEqual((caught.exception.line, caught.exception.at), (line, 0 if line >= 0 else -1))

    def test_each_word(self):
        text = ("answer tea cup\nanswer\nenter a 5\nmore 2\nless\ntie a b -3\nuntie 0\nthing abcdef\nname a b\n"
                "leave a\ntimes\nwhen b\nmay b -7\nbear a b 1000\npromise 100")
        self.assertEqual(read_commands(text), (
            ("answer", ("tea", "cup")), ("answer", ()), ("enter", "a", 5), ("more", 2), ("less",), ("tie", "a", "b", -3),
            ("untie", 0), ("thing", "abcdef"), ("name", "a", "b"), ("leave", "a"), ("times",), ("when", "b"),
            ("may", "b", -7), ("bear", "a", "b", 1000), ("promise", 100),
        ))
        self.assertEqual(read_commands(text="less"), (("less",),))

    def test_words_as_names(self):
        self.assertEqual(read_commands("enter enter 5\nanswer answer less"),
                         (("enter", "enter", 5), ("answer", ("answer", "less"))))

    def test_blanks_and_empty_lines(self):
        self.assertEqual(read_commands(""), ())
        self.assertEqual(read_commands("\n"), ())
        self.assertEqual(read_commands("   \n \n\n  "), ())
        self.assertEqual(read_commands("  less  "), (("less",),))
        self.assertEqual(read_commands("less\n"), (("less",),))
        self.assertEqual(read_commands("\n\nless\n\n"), (("less",),))
        self.assertEqual(read_commands("  enter    a   -5  \n  \n less\n"), (("enter", "a", -5), ("less",)))
        self.assertEqual(read_commands("answer  b   a "), (("answer", ("b", "a")),))

    def test_lines_are_numbered_with_the_empty_ones(self):
        self.invalid(0, "no")
        self.invalid(2, "less\n\nno")
        self.invalid(3, "\n   \nless\nno\nless\nnone")
        self.invalid(1, "\nless 1\n")
        self.invalid(0, "  no")
        self.invalid(1, "times\n less more\nno")

    def test_too_few_and_too_many_items(self):
        for command in all_commands():
            if command[0] != "answer":
                words = [str(item) for item in command]
                self.invalid(0, " ".join(words + ["a"]))
                self.invalid(1, "less\n" + " ".join(words + ["5"]))
                for at in range(1, len(words)):
                    self.invalid(0, " ".join(words[:at] + words[at + 1:]))

    def test_names(self):
        for name in ("a", "abcdef"):
            self.assertEqual(read_commands("thing " + name), (("thing", name),))
            self.assertEqual(read_commands("answer a " + name), (("answer", ("a", name)),))
        for name in ("abcdefg", "A", "a1", "1", "-", "a-b", "a_b", "caf\u00e9", "0", "-5", "a,b", "\u00aa"):
            for text in ("thing ", "answer a ", "answer ", "leave ", "when ", "name a ", "name b "):
                self.invalid(0, text + name)
        self.invalid(0, "thing")
        self.invalid(0, "enter 5")

    def test_bounds(self):
        for word, least, most in (("enter a", -MILLION, MILLION), ("may a", -MILLION, MILLION), ("more", 1, 100),
                                  ("promise", 1, 100), ("untie", 0, 59), ("tie a b", -1000, 1000),
                                  ("bear a b", -1000, 1000)):
            for number in (least, most, least + 1, most - 1):
                self.assertEqual(read_commands(f"{word} {number}")[0][-1], number)
            for number in (least - 1, most + 1, 9999999, -9999999, 10000000, 10 ** 20):
                self.invalid(0, f"{word} {number}")

    def test_integers(self):
        for told, number in (("0", 0), ("7", 7), ("10", 10), ("-1", -1), ("-10", -10), ("1000000", MILLION),
                             ("-1000000", -MILLION), ("999999", 999999)):
            command = read_commands("enter a " + told)[0]
            self.assertEqual(command, ("enter", "a", number))
            self.assertIs(command[2].__class__, int)
        for told in ("-0", "007", "00", "-07", "-00", "+1", "+0", "--1", "- 1", "-", "1-", "1.0", "1e3", "0x1", "1_0",
                     "10000000", "00000005", "-00000005", "0000000", "12345678", "-12345678", "1a", "a1", "'1'",
                     "\u0661", "\u00b2", "\uff11", "1\u0661", "1" * 5000, "-" + "1" * 5000, "0" * 5000):
            self.invalid(0, "enter a " + told)
            self.invalid(1, "times\nmay a " + told)
        self.invalid(0, "untie -0")
        self.invalid(0, "untie 00")
        self.invalid(0, "more 01")

    def test_other_signs_for_blanks(self):
        for sign in ("\t", "\r", "\x0b", "\x0c", "\u00a0", "\u2003", "\u3000", "\x00", "\x1c", "\x85", "\u2028"):
            self.invalid(0, f"enter{sign}a 5")
            self.invalid(0, f"enter a{sign}5")
            self.invalid(0, f"less{sign}")
            self.invalid(0, f"{sign}less")
            self.invalid(0, sign)
            self.invalid(1, f"less\n{sign}\nno")
            self.invalid(0, f"less{sign}times")
            self.invalid(0, f"enter a 5{sign}")

    def test_other_texts(self):
        for text in ("Less", "LESS", "le ss", "less;", "less,", "say", "#", "-", "5", "a", "a less", "-less", "enter a b",
                     "tie a 5 b", "tie 5 a b", "answer 5", "answer a 5", "answer ()", "answer a, b", "'less'"):
            self.invalid(0, text)

    def test_any_value(self):
        for value in odd_values() + [b"less", ["less"], ("less",), None, 5]:
            if not isinstance(value, str):
                self.invalid(-1, value)
        self.invalid(0, "A")
        self.invalid(0, "a" * 10000)


class ShownTest(unittest.TestCase):
    def test_lines(self):
        self.assertEqual(show_command(("answer", ())), "answer")
        self.assertEqual(show_command(("answer", ("tea", "cup", "tea"))), "answer tea cup tea")
        self.assertEqual(show_command(("enter", "a", -5)), "enter a -5")
        self.assertEqual(show_command(("less",)), "less")
        self.assertEqual(show_command(command=("tie", "b", "a", 0)), "tie b a 0")

    def test_texts(self):
        self.assertEqual(show_commands(()), "")
        self.assertEqual(show_commands((("less",),)), "less")
        self.assertEqual(show_commands(commands=(("less",), ("answer", ()), ("more", 3))), "less\nanswer\nmore 3")

    def test_read_again(self):
        commands = tuple(all_commands())
        for command in commands:
            line = show_command(command)
            self.assertNotIn("\n", line)
            self.assertNotIn("  ", line)
            self.assertEqual(line, line.strip())
            self.assertEqual(read_commands(line), (command,))
        self.assertEqual(read_commands(show_commands(commands)), commands)
        self.assertEqual(show_commands(commands).count("\n"), len(commands) - 1)

    def test_read_again_from_other_texts(self):
        chance = random.Random(78)
        commands = all_commands()
        for _ in range(300):
            some = tuple(chance.choice(commands) for _ in range(chance.randint(0, 8)))
            lines = []
            for command in some:
                lines += [" " * chance.randint(0, 3)] * chance.randint(0, 2)
                blanks = " " * chance.randint(1, 3)
                lines.append(" " * chance.randint(0, 2) + show_command(command).replace(" ", blanks) + blanks[1:])
            self.assertEqual(read_commands("\n".join(lines) + chance.choice(("", "\n", " \n\n"))), some)
            self.assertEqual(read_commands(show_commands(some)), some)


if __name__ == "__main__":
    unittest.main()
