"""Points 79 and 80, and the papers of point 81: runs of commands."""

import random

from saidatonce.attacks import is_attack
from saidatonce.commands import show_commands
from saidatonce.court import Barred
from saidatonce.days import said
from saidatonce.errors import InvalidText
from saidatonce.held import Short, is_held_paper
from saidatonce.runs import run_commands, run_script, run_with_papers, sheet_of_run, show_result
from saidatonce.sheets import Sheet, is_sheet, new_sheet
from saidatonce.tables import Table
from tests.checks import Checks
from tests.deeding import random_sheet, row_sheet
from tests.odd import keeps, odd_values, small_tables
from tests.running import harder, is_right_result, random_command, sheet_behind
from tests.slow import LETTERS, ring_of

ROW = Table(("a", "b", "c", "d"), ((0, 1, 1), (1, 2, 1), (2, 3, 2)))
SHEET = new_sheet(ROW, (1, 1, 1))
# a has come, and things may come two at a time, then one
OTHER = Sheet(ROW, (0, None, None, None), (2, 1))


class RunCase(Checks):
    def result(self, sheet, command):
        """The result of a single command, with its paper judged."""
        ((result, paper),) = run_with_papers(sheet, (command,))
        self.assertEqual(run_commands(sheet, (command,)), (result,))
        self.judge_paper(sheet, command, result, paper)
        return result

    def judge_paper(self, sheet, command, result, paper):
        if result != ("no",):
            self.assertIsNone(paper)
        elif command[0] == "may":
            thing = sheet.table.things.index(command[1])
            times = said(sheet.times, ((thing, command[2]),))
            self.assertIsInstance(paper, (Short, Barred))
            self.assertIs(is_held_paper(sheet.table, times, sheet.batches[1:], paper), True)
        elif command[0] == "bear":
            behind = harder(sheet, command)
            self.assertIsInstance(paper, (Short, Barred))
            self.assertIs(is_held_paper(behind.table, behind.times, behind.batches, paper), True)
        else:
            behind = harder(sheet, command)
            self.assertIs(is_attack(behind.table, behind.times, behind.batches, paper), True)

    def refuses(self, sheet, *commands):
        for command in commands:
            self.assertEqual(self.result(sheet, command), ("refused",), command)
            self.assertTrue(sheet_of_run(sheet, (command,), (("refused",),)) == sheet)


class ResultsTest(RunCase):
    def test_the_example_of_the_document(self):
        told = run_script(SHEET, "enter a 0\nwhen d\nenter d 3\nmay b 3\nwhen b\npromise 1\nbear a d 5")
        self.assertEqual(told, ("said a 0", "hours - -", "said d 3", "yes", "hours 1 -", "no", "no"))

    def test_by_the_words_of_the_document(self):
        chance = random.Random(791)
        results = {}
        for table in small_tables(150, 5, 6, -4, 1, seed=791):
            begun = random_sheet(chance, table)
            sheet, commands = begun, []
            for _ in range(30 if sheet else 0):
                command = random_command(chance, sheet)
                (result,) = run_commands(sheet, (command,))
                self.assertIs(is_right_result(sheet, command, result), True, (vars(sheet), command, result))
                self.result(sheet, command)
                results.setdefault(command[0], {}).setdefault(result[0], []).append(command)
                sheet = sheet_behind(sheet, command, result)
                self.assertIs(is_sheet(sheet), True)
                commands.append(command)
            if begun:
                told = run_commands(begun, tuple(commands))
                answers = run_with_papers(begun, tuple(commands))
                self.assertEqual(told, tuple(result for result, _ in answers))
                self.assertTrue(sheet_of_run(begun, tuple(commands), told) == sheet)
                self.assertEqual(run_script(begun, show_commands(tuple(commands))), tuple(map(show_result, told)))
        # each command with each of its results
        for word, wanted in (
            ("answer", "refused said"), ("enter", "refused said"), ("more", "did refused"), ("less", "did refused"),
            ("tie", "did refused"), ("untie", "did refused"), ("thing", "did refused"), ("name", "did refused"),
            ("leave", "did refused"), ("times", "times"), ("when", "hours refused"), ("may", "no refused yes"),
            ("bear", "no refused yes"), ("promise", "no yes"),
        ):
            self.assertEqual(" ".join(sorted(results[word])), wanted)

    def test_one_after_another(self):
        commands = (("enter", "b", 5), ("answer", ("a",)), ("times",), ("name", "a", "e"), ("times",), ("leave", "b"),
                    ("times",), ("thing", "aa"), ("enter", "aa", -3), ("times",), ("enter", "c", 0))
        told = run_commands(sheet=SHEET, commands=commands)
        self.assertEqual(told[0], ("said", (("b", 5),)))
        (_, ((name, time),)) = told[1]
        self.assertEqual(name, "a")
        self.assertLess(time, 5)
        self.assertEqual(told[2:8], (
            ("times", (("a", time), ("b", 5))), ("did",), ("times", (("b", 5), ("e", time))), ("did",),
            ("times", (("e", time),)), ("did",),
        ))
        self.assertEqual(told[8:], (("said", (("aa", -3),)), ("times", (("aa", -3), ("e", time))), ("refused",)))
        behind = sheet_of_run(sheet=SHEET, commands=commands, results=told)
        self.assertEqual(behind.table.things, ("aa", "c", "d", "e"))
        self.assertEqual((behind.times, behind.batches), ((-3, None, None, time), ()))

    def test_without_commands(self):
        self.assertEqual(run_commands(SHEET, ()), ())
        self.assertEqual(run_with_papers(sheet=SHEET, commands=()), ())
        self.assertTrue(sheet_of_run(SHEET, (), ()) == SHEET)
        self.assertEqual(run_script(sheet=SHEET, text=""), ())


class ComingTest(RunCase):
    def test_answer(self):
        word, pairs = self.result(OTHER, ("answer", ("d", "b")))
        self.assertEqual((word, [name for name, _ in pairs]), ("said", ["b", "d"]))
        self.assertEqual(self.result(OTHER, ("answer", ())), ("said", ()))
        behind = sheet_of_run(OTHER, (("answer", ()),), (("said", ()),))
        self.assertTrue(behind == Sheet(ROW, OTHER.times, (1,)))
        self.refuses(OTHER, ("answer", ("b", "b")), ("answer", ("a",)), ("answer", ("x",)), ("answer", ("b", "x")),
                     ("answer", ("b", "c", "d")), ("answer", ("a", "b")), ("answer", ("c", "b", "c")),
                     ("answer", ("b",) * 50))

    def test_enter(self):
        for wish, time in ((-10 ** 6, 1), (0, 1), (1, 1), (2, 2), (10 ** 6, 10 ** 6)):
            self.assertEqual(self.result(OTHER, ("enter", "b", wish)), ("said", (("b", time),)))
        self.refuses(OTHER, ("enter", "a", 0), ("enter", "x", 0), ("enter", "aa", 10 ** 6))

    def test_when_and_may(self):
        self.assertEqual(self.result(OTHER, ("when", "b")), ("hours", 1, None))
        self.assertEqual(self.result(OTHER, ("when", "d")), ("hours", None, None))
        closed = Sheet(Table(("a", "b"), ((0, 1, 2), (1, 0, -7))), (0, None), (3,))
        self.assertEqual(self.result(closed, ("when", "b")), ("hours", 2, 7))
        for time, told in ((1, "no"), (2, "yes"), (7, "yes"), (8, "no"), (10 ** 6, "no"), (-10 ** 6, "no")):
            self.assertEqual(self.result(closed, ("may", "b", time)), (told,))
        self.refuses(OTHER, ("when", "a"), ("when", "x"), ("may", "a", 0), ("may", "x", 0))
        back = Sheet(Table(("a", "b"), ((0, 1, 2), (1, 0, -7))), (None, 0), (1,))
        self.assertEqual(self.result(back, ("when", "a")), ("hours", -7, -2))

    def test_batches_behind_the_thing(self):
        # with one more order b must leave room; the batch in which it comes does not count
        row = row_sheet(3, (1,)).table
        for batches, told in (((1,), (None, None)), ((1, 1), (2, None)), ((1, 1, 1), (2, None)), ((5,), (None, None))):
            self.assertEqual(self.result(Sheet(row, (0, None, None), batches), ("when", "c")), ("hours",) + told)

    def test_without_batches(self):
        sheet = Sheet(ROW, (0, None, None, None), ())
        self.refuses(sheet, ("answer", ()), ("answer", ("b",)), ("enter", "b", 0), ("when", "b"), ("may", "b", 1),
                     ("answer", ("x",)), ("enter", "x", 0), ("less",))

    def test_they_change_nothing(self):
        for command in (("times",), ("when", "b"), ("may", "b", 1), ("may", "b", 0), ("bear", "a", "b", 1),
                        ("bear", "b", "a", 1), ("promise", 1), ("promise", 100)):
            (result,) = run_commands(OTHER, (command,))
            self.assertTrue(sheet_of_run(OTHER, (command,), (result,)) == OTHER)


class DeedsTest(RunCase):
    def does(self, sheet, *commands):
        for command in commands:
            self.assertEqual(self.result(sheet, command), ("did",), command)

    def test_deeds(self):
        self.does(OTHER, ("more", 1), ("more", 100), ("less",), ("tie", "a", "d", 9), ("untie", 0), ("untie", 2),
                  ("thing", "x"), ("thing", "bb"), ("name", "a", "x"), ("name", "d", "abcdef"), ("leave", "a"),
                  ("leave", "d"), ("tie", "d", "a", -1000))
        self.refuses(OTHER, ("untie", 3), ("untie", 59), ("thing", "a"), ("thing", "d"), ("name", "a", "b"),
                     ("name", "a", "a"), ("name", "x", "y"), ("leave", "x"), ("tie", "a", "a", 1), ("tie", "a", "x", 1),
                     ("tie", "x", "a", 1), ("tie", "d", "a", 1000), ("tie", "x", "x", 0))
        self.refuses(Sheet(Table(("a",), ()), (None,), ()), ("leave", "a"), ("less",), ("untie", 0))

    def test_bounds(self):
        full = row_sheet(12, (100,) * 60)
        self.refuses(full, ("thing", "z"), ("more", 1), ("promise", 1), ("promise", 100))
        self.does(full, ("less",), ("name", "a", "zzzzzz"), ("leave", "l"))
        many = Sheet(Table(("a", "b"), ((0, 1, 1),) * 60), (None, None), (1,))
        self.refuses(many, ("tie", "a", "b", 1), ("bear", "a", "b", 1), ("bear", "a", "b", -1000))
        self.does(many, ("untie", 59))
        almost = Sheet(Table(("a", "b"), ((0, 1, 1),) * 59), (None, None), (1,) * 59)
        self.does(almost, ("tie", "a", "b", 1000), ("more", 100))
        self.assertEqual(self.result(almost, ("bear", "a", "b", 1000)), ("yes",))
        self.assertEqual(self.result(almost, ("bear", "b", "a", 0)), ("no",))
        self.assertEqual(self.result(almost, ("promise", 100)), ("yes",))

    def test_bear_and_promise(self):
        sheet = Sheet(ROW, (0, None, None, 3), (1,))
        for weight, told in ((3, "yes"), (4, "no"), (-1000, "yes"), (1000, "no")):
            self.assertEqual(self.result(sheet, ("bear", "a", "d", weight)), (told,))
        self.assertEqual(self.result(sheet, ("promise", 1)), ("no",))
        self.assertEqual(self.result(Sheet(ROW, (0, None, None, 4), (1,)), ("promise", 1)), ("yes",))
        self.refuses(sheet, ("bear", "a", "a", 1), ("bear", "a", "x", 1), ("bear", "x", "a", 1), ("bear", "x", "x", 1))
        ring = new_sheet(Table(tuple("abc"), ring_of(3, 1)), ())
        for size, told in ((1, "yes"), (2, "yes"), (3, "no"), (100, "no")):
            self.assertEqual(self.result(ring, ("promise", size)), (told,))
        self.assertEqual(self.result(new_sheet(ring.table, (1,)), ("bear", "b", "a", 1000)), ("yes",))
        self.assertEqual(self.result(new_sheet(ring.table, (2,)), ("bear", "b", "a", 0)), ("no",))


class FarTest(RunCase):
    def test_60_commands_at_the_bounds(self):
        chance = random.Random(792)
        for turn in range(6):
            sign = 1 if turn % 2 else -1
            ties = [(at, (at + 1) % 12, 1000) for at in range(11)] + [(11, 0, -1000)] * 20
            ties += [(*chance.sample(range(12), 2), -1000) for _ in range(60 - len(ties))]
            table = Table(tuple(LETTERS), tuple(ties))
            times = tuple(sign * 10 ** 8 if at == 0 else None for at in range(12))
            sheet = Sheet(table, times, ())
            if not is_sheet(sheet):
                continue
            commands = []
            for at in range(20):
                name = LETTERS[at % 12]
                commands += [("more", 1), ("answer", (name,)), ("leave", name), ("thing", name), ("enter", name, 0)]
            told = run_commands(sheet, tuple(commands[:60]))
            behind = sheet
            for command, result in zip(commands, told):
                self.assertIs(is_right_result(behind, command, result), True)
                behind = sheet_behind(behind, command, result)
                self.assertTrue(keeps(behind.table, behind.times))
                self.assertIs(is_sheet(behind), True)

    def test_pushed_on_and_on(self):
        # each new thing must be later than the one before by 1000
        sheet = Sheet(Table(("a", "b"), ()), (10 ** 8, None), ())
        commands = [("leave", "b")]
        for at in range(14):
            one, other = "ab" if at % 2 == 0 else "ba"
            commands += [("thing", other), ("tie", one, other, 1000), ("more", 1), ("answer", (other,))]
            commands += [("leave", one)] if len(commands) < 58 else []
        told = run_commands(sheet, tuple(commands[:60]))
        self.assertNotIn(("refused",), told)
        pairs = [result[1][0] for result in told if result[0] == "said"]
        self.assertTrue(all(other[1] >= one[1] + 1000 for one, other in zip(pairs, pairs[1:])))

    def test_wishes_at_the_bounds(self):
        sheet = Sheet(Table(("a", "b"), ((0, 1, 1000),)), (10 ** 8, None), (1,))
        self.assertEqual(self.result(sheet, ("enter", "b", -10 ** 6)), ("said", (("b", 10 ** 8 + 1000),)))
        sheet = Sheet(Table(("a", "b"), ((1, 0, 1000),)), (-10 ** 8, None), (1,))
        self.assertEqual(self.result(sheet, ("enter", "b", 10 ** 6)), ("said", (("b", -10 ** 8 - 1000),)))


class LinesTest(RunCase):
    def test_lines(self):
        for result, line in (
            (("said", ()), "said"), (("said", (("a", 0),)), "said a 0"), (("said", (("a", -5), ("bb", 7))), "said a -5 bb 7"),
            (("did",), "did"), (("refused",), "refused"), (("yes",), "yes"), (("no",), "no"), (("times", ()), "times"),
            (("times", (("a", 1), ("b", 2))), "times a 1 b 2"), (("hours", None, None), "hours - -"),
            (("hours", -3, None), "hours -3 -"), (("hours", None, 0), "hours - 0"), (("hours", 0, 10 ** 9), "hours 0 1000000000"),
        ):
            self.assertEqual(show_result(result), line)
        self.assertEqual(show_result(result=("did",)), "did")

    def test_texts(self):
        self.assertEqual(run_script(SHEET, "\n  times \n\nless"), ("times", "did"))
        self.assertEqual(run_script(SHEET, "thing x\nthing x\nleave x\nanswer"), ("did", "refused", "did", "said"))

    def test_what_read_commands_raises(self):
        for text in ("no", "less 1", "enter a", "times\nenter a 1.5", "more 0", "tie a b 1001"):
            self.raised(InvalidText, (text.count("\n"), 0), run_script, SHEET, text)
        for text in odd_values() + [None, 5, ["less"], b"less"]:
            if not isinstance(text, str):
                self.raised(InvalidText, (-1, -1), run_script, SHEET, text)
