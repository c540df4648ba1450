"""Points 81 (the judge) and 82: runs without a fault, and statements that are so."""

import random

from saidatonce.attacks import Attack, Coming, TieBroken
from saidatonce.bounds import BoundPaper, bound_paper
from saidatonce.claims import is_so, not_so, run_fault
from saidatonce.court import Barred, Safe, court
from saidatonce.forever import Ever, for_ever
from saidatonce.halving import attack_on
from saidatonce.held import Held, Short, held
from saidatonce.pricepapers import PricePaper, refusal_paper
from saidatonce.roompapers import Heavy, Roomy, room_paper
from saidatonce.runs import run_commands, run_with_papers
from saidatonce.sheets import Sheet, is_sheet, new_sheet
from saidatonce.tables import Table
from tests.checks import NO_BATCHES, NO_INTEGERS, Checks
from tests.deeding import random_sheet, row_sheet
from tests.odd import Sour, Yes, odd_values, small_tables
from tests.running import is_right_result, random_command, sheet_behind
from tests.slow import ring_of

ROW = Table(("a", "b", "c", "d"), ((0, 1, 1), (1, 2, 1), (2, 3, 2)))
NONE = (None,) * 4
SHEET = Sheet(ROW, (0, None, None, 3), (1,))
TWO = Sheet(ROW, (0, None, None, 4), (2,))
RING = Table(("a", "b", "c", "d"), ((0, 1, 1), (1, 2, 1), (2, 3, 1), (3, 0, -2)))

# a command for each kind of result, on SHEET
COMMANDS = (
    ("times",), ("when", "b"), ("may", "b", 3), ("may", "b", 0), ("bear", "a", "d", 4), ("bear", "a", "d", 3),
    ("promise", 1), ("less",), ("more", 1), ("leave", "x"), ("thing", "e"), ("answer", ("e",)), ("more", 1),
    ("enter", "b", 5),
)


def answers_of(sheet, commands):
    return run_with_papers(sheet, commands)


class FaultCase(Checks):
    def right(self, command, result, paper=None, sheet=SHEET):
        self.assertIsNone(run_fault(sheet, (command,), ((result, paper),)))
        self.assertIs(is_so(("pair", sheet, command, result, paper)), True)

    def wrong(self, command, result, paper=None, sheet=SHEET):
        self.assertEqual(run_fault(sheet, (command,), ((result, paper),)), 0, (command, result))
        self.assertIs(is_so(("pair", sheet, command, result, paper)), False)


class FaultTest(FaultCase):
    def test_the_own_answers_of_the_program(self):
        chance = random.Random(811)
        for table in small_tables(100, 5, 6, -4, 1, seed=811):
            begun = random_sheet(chance, table)
            sheet, commands = begun, []
            for _ in range(20 if sheet else 0):
                command = random_command(chance, sheet)
                commands.append(command)
                sheet = sheet_behind(sheet, command, run_commands(sheet, (command,))[0])
            if begun:
                commands = tuple(commands)
                answers = answers_of(begun, commands)
                self.assertIsNone(run_fault(begun, commands, answers))
                self.assertIs(is_so(("run", begun, commands, answers)), True)
                # answers taken away, put in, or given for others
                at = chance.randrange(len(commands))
                self.assertEqual(run_fault(begun, commands, answers[:at]), at)
                self.assertEqual(run_fault(begun, commands[:at], answers), at)
                self.assertEqual(run_fault(begun, commands, answers + (answers[0],)), len(commands))
                for wrong in (None, (), (None, None), (("no",), None), (("refused",), Held()), (("did",),)):
                    self.assertEqual(run_fault(begun, commands, answers[:at] + (wrong,) + answers[at + 1:]), at)

    def test_others_right_answers(self):
        # the times of each answer are changed; what is right by the words of the document is taken, nothing else
        chance = random.Random(812)
        told = []
        for table in small_tables(200, 5, 6, -4, 1, seed=812):
            sheet = random_sheet(chance, table)
            for _ in range(15 if sheet else 0):
                command = random_command(chance, sheet)
                ((result, paper),) = answers_of(sheet, (command,))
                if result[0] == "said":
                    for by in (-12 * 10 ** 6, -1, 0, 1, 2, 12 * 10 ** 6 + 20):
                        pairs = tuple((name, time + chance.choice((0, by))) for name, time in result[1])
                        wanted = is_right_result(sheet, command, ("said", pairs))
                        told.append(wanted)
                        fault = run_fault(sheet, (command,), ((("said", pairs), None),))
                        self.assertIs(fault is None, wanted, (vars(sheet), command, pairs))
                        if wanted:
                            result = ("said", pairs)
                sheet = sheet_behind(sheet, command, result)
        self.assertGreater(told.count(True), 100)
        self.assertGreater(told.count(False), 100)

    def test_by_the_answers_before(self):
        # what is right hangs on what was said before
        commands = (("answer", ("b",)), ("times",))
        for time in (1, 2, 7):
            answers = ((("said", (("b", time),)), None), (("times", (("a", 0), ("b", time), ("d", 3))), None))
            self.assertIsNone(run_fault(sheet=SHEET, commands=commands, answers=answers))
            self.assertEqual(run_fault(SHEET, commands, answers[:1] + ((("times", (("a", 0), ("d", 3))), None),)), 1)
            self.assertEqual(run_fault(SHEET, commands, answers[:1]), 1)
            self.assertEqual(run_fault(SHEET, commands, ()), 0)
            self.assertEqual(run_fault(SHEET, commands, answers + answers), 2)

    def test_without_commands(self):
        self.assertIsNone(run_fault(SHEET, (), ()))
        self.assertEqual(run_fault(SHEET, (), ((("did",), None),)), 0)
        self.assertEqual(run_fault(SHEET, (), None), 0)

    def test_answers_of_all_kinds(self):
        answers = answers_of(SHEET, COMMANDS)
        self.assertIsNone(run_fault(SHEET, COMMANDS, answers))
        for value in odd_values():
            if isinstance(value, tuple):
                self.assertEqual(run_fault(SHEET, COMMANDS, value), 0)
            else:
                self.assertEqual(run_fault(SHEET, COMMANDS, value), 0)
                self.assertEqual(run_fault(SHEET, (), value), 0)
            for at, (result, paper) in enumerate(answers):
                for wrong in (value, (value, paper), (result, paper, value), (result,), [result, paper],
                              ((result, paper),), (list(result), paper), (result[:1] + (value,) + result[2:], paper),
                              ((value,) + result[1:], paper), (result + (value,), paper), ((), paper), result):
                    self.assertEqual(run_fault(SHEET, COMMANDS, answers[:at] + (wrong,) + answers[at + 1:]), at)
                if value is not None:
                    wrong = answers[:at] + ((result, value),) + answers[at + 1:]
                    self.assertEqual(run_fault(SHEET, COMMANDS, wrong), at)
        self.assertEqual(run_fault(SHEET, COMMANDS, list(answers)), 0)

    def test_each_kind_of_wrong_answer(self):
        answers = answers_of(SHEET, COMMANDS)
        results = [("refused",), ("did",), ("yes",), ("no",), ("times", ()), ("hours", None, None), ("said", ())]
        papers = [None, Held(), Short((0,)), Short((0, 1)), Barred((0, 1)), Safe(), Attack((0,), TieBroken(0))]
        for at, (result, paper) in enumerate(answers):
            for other in results:
                for told in papers + [paper]:
                    if other != result:
                        wrong = answers[:at] + ((other, told),) + answers[at + 1:]
                        self.assertEqual(run_fault(SHEET, COMMANDS, wrong), at, COMMANDS[at])
            if paper is None:
                for told in papers[1:]:
                    wrong = answers[:at] + ((result, told),) + answers[at + 1:]
                    self.assertEqual(run_fault(SHEET, COMMANDS, wrong), at)


class PairTest(FaultCase):
    def test_said(self):
        self.right(("answer", ("b",)), ("said", (("b", 1),)))
        self.right(("answer", ("b",)), ("said", (("b", 12 * 10 ** 6 + 3),)))
        self.wrong(("answer", ("b",)), ("said", (("b", 12 * 10 ** 6 + 4),)))
        self.wrong(("answer", ("b",)), ("said", (("b", 0),)))
        self.wrong(("answer", ("c", "b")), ("said", (("b", 1), ("c", 2))))
        self.right(("answer", ("c", "b")), ("said", (("b", 1), ("c", 2))), sheet=TWO)
        self.wrong(("answer", ("c", "b")), ("said", (("b", 1), ("c", 1))), sheet=TWO)
        self.wrong(("answer", ("c", "b")), ("said", (("b", 2), ("c", 3))), sheet=TWO)
        wide = Sheet(ROW, (0, None, None, 9), (2,))
        self.right(("answer", ("c", "b")), ("said", (("b", 1), ("c", 2))), sheet=wide)
        self.wrong(("answer", ("c", "b")), ("said", (("c", 2), ("b", 1))), sheet=wide)
        self.wrong(("answer", ("c", "b")), ("said", (("b", 1),)), sheet=wide)
        self.wrong(("answer", ("c", "b")), ("said", (("b", 1), ("c", 2), ("c", 2))), sheet=wide)
        self.wrong(("answer", ("c", "b")), ("said", (("b", 1), ("d", 2))), sheet=wide)
        self.wrong(("answer", ("c", "b")), ("said", (("b", 1), ("b", 1))), sheet=wide)
        self.wrong(("answer", ("c", "b")), ("refused",), sheet=wide)
        self.wrong(("answer", ("b",)), ("said", (("c", 2),)), sheet=wide)
        self.right(("answer", ("c",)), ("said", (("c", 2),)), sheet=wide)
        for value in odd_values() + [["c", 2], ("c",), ("c", 2, 2), "c2", ("c", (2,)), (Sour(), 2), (Yes(), 2)]:
            self.wrong(("answer", ("c",)), ("said", (value,)), sheet=wide)
            self.wrong(("answer", ("c",)), ("said", value), sheet=wide)
        self.right(("answer", ()), ("said", ()))
        self.wrong(("answer", ()), ("said", (("b", 1),)))
        self.right(("answer", ("a",)), ("refused",))
        self.wrong(("answer", ("a",)), ("said", (("a", 0),)))

    def test_how_far(self):
        free = new_sheet(Table(("a", "b"), ()), (2,))
        for time, told in ((12 * 10 ** 6, True), (-12 * 10 ** 6, True), (12 * 10 ** 6 + 1, False), (-12 * 10 ** 6 - 1, False)):
            (self.right if told else self.wrong)(("answer", ("b",)), ("said", (("b", time),)), sheet=free)
        for own, low, high in ((10 ** 8, 0, 10 ** 8), (-10 ** 8, -10 ** 8, 0), (5, 0, 5), (0, 0, 0)):
            sheet = Sheet(free.table, (own, None), (2,))
            for time, told in ((low - 12 * 10 ** 6, True), (low - 12 * 10 ** 6 - 1, False),
                               (high + 12 * 10 ** 6, True), (high + 12 * 10 ** 6 + 1, False)):
                (self.right if told else self.wrong)(("answer", ("b",)), ("said", (("b", time),)), sheet=sheet)

    def test_entered(self):
        self.right(("enter", "b", 5), ("said", (("b", 5),)))
        for result in (("said", (("b", 4),)), ("said", (("b", 6),)), ("said", (("c", 5),)), ("said", ()), ("refused",),
                       ("said", (("b", 5), ("b", 5))), ("said", ("b", 5)), ("said", [("b", 5)]), ("said", (["b", 5],))):
            self.wrong(("enter", "b", 5), result)
        self.right(("enter", "b", -5), ("said", (("b", 1),)))
        self.right(("enter", "a", 5), ("refused",))

    def test_no_bools(self):
        one = Sheet(ROW, (0, None, None, None), (1,))
        self.right(("enter", "b", 1), ("said", (("b", 1),)), sheet=one)
        self.wrong(("enter", "b", 1), ("said", (("b", True),)), sheet=one)
        self.wrong(("answer", ("b",)), ("said", (("b", True),)), sheet=one)
        self.wrong(("answer", ("b",)), ("said", (("b", 1.0),)), sheet=one)
        self.right(("times",), ("times", (("a", 0),)), sheet=one)
        self.wrong(("times",), ("times", (("a", False),)), sheet=one)
        self.wrong(("times",), ("times", (("a", 0.0),)), sheet=one)
        self.right(("when", "b"), ("hours", 1, None), sheet=one)
        self.wrong(("when", "b"), ("hours", True, None), sheet=one)
        for wrong in NO_INTEGERS:
            self.wrong(("answer", ("b",)), ("said", (("b", wrong),)), sheet=one)
            self.wrong(("enter", "b", 1), ("said", (("b", wrong),)), sheet=one)
            self.wrong(("when", "b"), ("hours", wrong, None), sheet=one)
            self.wrong(("times",), ("times", (("a", wrong),)), sheet=one)

    def test_hours(self):
        self.right(("when", "b"), ("hours", 1, None))
        for result in (("hours", 0, None), ("hours", 2, None), ("hours", 1, 5), ("hours", None, None), ("hours", 1),
                       ("hours", 1, None, None), ("hours", (1, None)), None, ("refused",)):
            self.wrong(("when", "b"), result)

    def test_papers_for_may(self):
        self.right(("may", "b", 1), ("yes",))
        self.wrong(("may", "b", 1), ("yes",), Short((0,)))
        self.wrong(("may", "b", 1), ("no",), Short((0,)))
        self.right(("may", "b", 0), ("no",), Short((0,)))
        for paper in (None, Held(), Short((1,)), Short(()), Barred((0,)), Safe(), Short([0]), Short((False,)), (0,), Short):
            self.wrong(("may", "b", 0), ("no",), paper)
        # for the batches behind the first one
        two = Sheet(ROW, (0, None, None, None), (1, 1))
        self.right(("may", "c", 1), ("no",), Short((0, 1)), sheet=two)
        one = Sheet(ROW, (0, None, None, None), (1,))
        self.right(("may", "c", 1), ("yes",), sheet=one)
        self.wrong(("may", "c", 1), ("no",), Short((0, 1)), sheet=one)

    def test_papers_for_bear(self):
        self.right(("bear", "a", "d", 4), ("no",), Short((3,)))
        self.wrong(("bear", "a", "d", 4), ("no",), Short((2,)))
        self.wrong(("bear", "a", "d", 4), ("no",), None)
        self.wrong(("bear", "a", "d", 4), ("no",), Held())
        self.right(("bear", "a", "d", 3), ("yes",))
        self.wrong(("bear", "a", "d", 3), ("no",), Short((3,)))
        two = Sheet(ROW, NONE, (2,))
        self.right(("bear", "b", "a", 0), ("no",), Barred((0, 3)), sheet=two)
        self.right(("bear", "b", "a", 0), ("no",), Barred((3, 0)), sheet=two)
        self.wrong(("bear", "b", "a", 0), ("no",), Barred((0, 2)), sheet=two)
        self.wrong(("bear", "b", "a", 0), ("no",), Barred((0, 4)), sheet=two)

    def test_papers_for_promise(self):
        tight = Sheet(ROW, (0, None, 1, None), ())
        attack = Attack((0, 1), Coming((1,), (((0,), TieBroken(0)), ((1,), TieBroken(1)))))
        self.right(("promise", 1), ("no",), attack, sheet=tight)
        for paper in (None, Held(), Short((0, 1)), Attack((0, 1), TieBroken(0)), Attack((0, 1), Coming((), attack.tree.parts)),
                      Attack((0, 1), Coming((1,), (((0,), TieBroken(0)), ((1,), TieBroken(0))))), attack.tree):
            self.wrong(("promise", 1), ("no",), paper, sheet=tight)
        self.wrong(("promise", 1), ("yes",), None, sheet=tight)
        self.right(("promise", 1), ("yes",), None, sheet=Sheet(ROW, (0, None, 2, None), ()))
        self.wrong(("promise", 1), ("no",), attack, sheet=Sheet(ROW, (0, None, 2, None), ()))

    def test_deeds(self):
        for command, result in ((("more", 1), "did"), (("less",), "did"), (("leave", "x"), "refused"), (("untie", 9), "refused"),
                                (("thing", "a"), "refused"), (("thing", "x"), "did")):
            for word in ("did", "refused", "yes", "no"):
                (self.right if word == result else self.wrong)(command, (word,), sheet=TWO)


class StatementTest(Checks):
    def right(self, *value):
        self.assertIs(is_so(value), True, value)

    def wrong(self, *value):
        self.assertIs(is_so(value), False, value)

    def some_statements(self):
        """Right statements of each kind."""
        times, short = (0, None, None, None), (0, None, None, 2)
        ends = room_paper(ROW, 0, 3, (1,), 4), room_paper(ROW, 0, 3, (2,), 3)
        commands = COMMANDS
        return [
            ("bound", ROW, 9, bound_paper(ROW, 9)), ("bound", RING, 0, bound_paper(RING, 0)),
            ("bound", RING, 10 ** 130, bound_paper(RING, 10 ** 130)),
            ("court", RING, (1, 2), Safe()), ("court", RING, (2, 1), court(RING, (2, 1))),
            ("held", ROW, times, (1,), Held()), ("held", ROW, short, (2,), held(ROW, short, (2,))),
            ("attack", ROW, short, (2, 1), attack_on(ROW, short, (2, 1))),
            ("room", ROW, (0, 3), (1,), 4, ends[0]), ("room", ROW, (0, 3), (2,), 3, ends[1]),
            ("ever", ROW, times, for_ever(ROW, times)), ("ever", ROW, short, for_ever(ROW, short)),
            ("ever", RING, NONE, for_ever(RING, NONE)),
            ("refusal", ROW, short, (2,), (1,) * 4, refusal_paper(ROW, short, (2,), (1,) * 4)),
            ("refusal", ROW, times, (2,), (1,) * 4, PricePaper(0, ())),
            ("pair", SHEET, ("may", "b", 0), ("no",), Short((0,))), ("pair", SHEET, ("times",), ("times", (("a", 0), ("d", 3))), None),
            ("run", SHEET, commands, answers_of(SHEET, commands)), ("run", SHEET, (), ()),
        ]

    def test_right_ones(self):
        told = self.some_statements()
        kinds = [ends for ends in told if ends[0] == "room"]
        self.assertEqual([type(statement[-1]) for statement in kinds], [Roomy, Heavy])
        for statement in told:
            self.right(*statement)
        self.assertEqual({statement[0] for statement in told}, {
            "bound", "court", "held", "attack", "room", "ever", "refusal", "pair", "run",
        })
        self.assertIs(is_so(value=told[0]), True)
        self.assertEqual(not_so(values=tuple(told)), ())

    def test_wrong_at_one_place(self):
        for statement in self.some_statements():
            self.wrong(*statement[:-1])
            self.wrong(*statement, None)
            self.wrong(*statement[1:])
            self.assertIs(is_so(list(statement)), False)
            for at in range(len(statement)):
                for value in odd_values() + NO_BATCHES + [Table, Sheet, 5, (), ((),)]:
                    told = statement[:at] + (value,) + statement[at + 1:]
                    if not self.may_be_so(statement, at, value):
                        self.assertIs(is_so(told), False, (statement[0], at, value))

    def may_be_so(self, statement, at, value):
        """Whether a statement may be so with another value at a place, as numbers, no batches and None are some."""
        word = statement[0]
        if word == "bound" and at == 2:
            return type(value) is int
        if word in ("court", "held", "refusal", "room") and statement[-1].__class__ in (Safe, Held, PricePaper, Roomy):
            return value == () if type(value) is tuple and at in (2, 3) else type(value) is int and word == "room"
        if word == "room" and at == 4:
            return type(value) is int
        if word == "pair" and at == 4:
            return value is None and statement[4] is None
        return word == "run" and statement[2] == () and type(value) is tuple and value == () and at > 1

    def test_words(self):
        for word in ("", "Held", "held ", b"held", "no", None, 0, ("held",), "safe", "strike", "forecast"):
            self.wrong(word, ROW, (0, None, None, None), (1,), Held())
        self.right("held", ROW, (0, None, None, None), (1,), Held())
        for value in odd_values() + [(), ("held",), "held", Held(), ["held", ROW, NONE, (), Held()]]:
            self.assertIs(is_so(value), False)

    def test_bound(self):
        paper = bound_paper(ROW, 2)
        for most, told in ((0, True), (1, True), (2, True), (3, False), (10 ** 140, False), (-1, False)):
            (self.right if told else self.wrong)("bound", ROW, most, paper)
        self.wrong("bound", RING, 2, paper)
        self.wrong("bound", ROW, 2, BoundPaper(paper.steps, paper.rows[:-1]))
        for value in NO_INTEGERS:
            self.wrong("bound", ROW, value, paper)

    def test_court(self):
        for batches, told in (((), True), ((1, 2), True), ((2, 1), False), ((4,), False)):
            (self.right if told else self.wrong)("court", RING, batches, Safe())
            (self.wrong if told else self.right)("court", RING, batches, Barred((0, 1, 2, 3)))
        for batches in NO_BATCHES:
            self.wrong("court", RING, batches, Safe())

    def test_held(self):
        short = (0, None, None, 3)
        for batches, told in (((), True), ((1,), True), ((2,), False), ((1, 1), False)):
            (self.right if told else self.wrong)("held", ROW, short, batches, Held())
            (self.wrong if told else self.right)("held", ROW, short, batches, Short((0, 1, 2)))
        for times in ((0, None, None), (0, None, None, True), (0, None, None, 10 ** 9 + 1), [0, None, None, 3]):
            self.wrong("held", ROW, times, (), Held())
        for batches in NO_BATCHES:
            self.wrong("held", ROW, short, batches, Held())

    def test_attack(self):
        short = (0, None, None, 3)
        attack = attack_on(ROW, short, (2,))
        self.right("attack", ROW, short, (2,), attack)
        self.right("attack", ROW, short, (2, 5), attack)
        self.wrong("attack", ROW, short, (1,), attack)
        self.wrong("attack", ROW, (0, None, None, 4), (2,), attack)
        self.wrong("attack", ROW, (0, None, None, 10 ** 9 + 1), (2,), attack)
        for batches in NO_BATCHES:
            self.wrong("attack", ROW, short, batches, attack)

    def test_room(self):
        paper = room_paper(ROW, 0, 3, (1,), 4)
        self.right("room", ROW, (0, 3), (1,), 4, paper)
        self.right("room", ROW, (0, 3), (1,), 99, paper)
        self.wrong("room", ROW, (0, 3), (2,), 3, paper)
        for ends in ((0, 0), (0, 4), (0,), (0, 3, 3), [0, 3], 0, (False, 3), (0, 3.0), ("a", "d"), (Yes(), 3), ()):
            self.wrong("room", ROW, ends, (1,), 4, paper)
        for room in NO_INTEGERS:
            self.wrong("room", ROW, (0, 3), (1,), room, paper)
        for batches in NO_BATCHES:
            self.wrong("room", ROW, (0, 3), batches, 4, paper)
        tight = room_paper(ROW, 0, 3, (2,), 4)
        self.right("room", ROW, (0, 3), (2,), 4, tight)
        self.right("room", ROW, (3, 0), (2,), -4, tight)
        self.wrong("room", ROW, (3, 0), (2,), 4, tight)
        heavy = room_paper(ROW, 0, 3, (2,), 3)
        self.right("room", ROW, (0, 3), (2,), 3, heavy)
        self.right("room", ROW, (0, 3), (2,), -99, heavy)
        self.wrong("room", ROW, (0, 3), (2,), 4, heavy)

    def test_ever(self):
        self.right("ever", ROW, (0, None, None, None), Ever((0, 1, 2, 4)))
        self.wrong("ever", ROW, (0, None, None, None), Ever((0, 1, 2, 3)))
        self.wrong("ever", ROW, (1, None, None, None), Ever((0, 1, 2, 4)))
        self.right("ever", ROW, NONE, Ever((10 ** 20, 10 ** 20 + 1, 10 ** 20 + 2, 10 ** 20 + 4)))
        self.wrong("ever", ROW, (10 ** 20, None, None, None), Ever((10 ** 20, 10 ** 20 + 1, 10 ** 20 + 2, 10 ** 20 + 4)))
        self.wrong("ever", ROW, (0, None, None), Ever((0, 1, 2)))

    def test_refusal(self):
        short = (0, None, None, 3)
        paper = refusal_paper(ROW, short, (2,), (5, 2, 3, 5))
        self.assertEqual(paper.price, 2)
        self.right("refusal", ROW, short, (2,), (5, 2, 3, 5), paper)
        self.right("refusal", ROW, short, (2,), (0, 10 ** 6, 10 ** 6, 0), paper)
        for prices in ((5, 1, 3, 5), (5, 2, 3), (5, 2, 3, 10 ** 6 + 1), [5, 2, 3, 5], (5, 2, 3, -1), (5, 2, 3, True), None):
            self.wrong("refusal", ROW, short, (2,), prices, paper)
        self.wrong("refusal", ROW, short, (1,), (5, 2, 3, 5), paper)
        for batches in NO_BATCHES:
            self.wrong("refusal", ROW, short, batches, (5, 2, 3, 5), paper)

    def test_sheets_that_can_be_run_with(self):
        for weight, told in ((1000, True), (-1000, True), (1001, False), (-1001, False), (10 ** 6, False)):
            sheet = new_sheet(Table(("a", "b"), ((0, 1, weight),)), ())
            (self.right if told else self.wrong)("pair", sheet, ("times",), ("times", ()), None)
            (self.right if told else self.wrong)("run", sheet, (), ())
        for time, told in ((10 ** 8, True), (-10 ** 8, True), (10 ** 8 + 1, False), (-10 ** 8 - 1, False)):
            sheet = Sheet(Table(("a", "b"), ()), (None, time), ())
            self.assertIs(is_sheet(sheet), True)
            (self.right if told else self.wrong)("pair", sheet, ("times",), ("times", (("b", time),)), None)
            (self.right if told else self.wrong)("run", sheet, (("times",),), ((("times", (("b", time),)), None),))
        # sheets that are not open
        for sheet in (Sheet(RING, NONE, (4,)), Sheet(ROW, (0, 0, None, None), ()), Sheet(ROW, (None,) * 3, ()),
                      Sheet(ROW, NONE, (0,)), (ROW, NONE, ()), None, ROW):
            self.wrong("pair", sheet, ("times",), ("times", ()), None)
            self.wrong("run", sheet, (), ())

    def test_how_many_commands(self):
        sheet = row_sheet(2)
        for many, told in ((1, True), (59, True), (60, True), (61, False), (100, False)):
            commands, answers = (("times",),) * many, ((("times", ()), None),) * many
            (self.right if told else self.wrong)("run", sheet, commands, answers)
            self.assertIsNone(run_fault(sheet, commands, answers))

    def test_commands_of_all_kinds(self):
        sheet = row_sheet(2)
        right = (("times", ()), None)
        for value in odd_values() + [("no",), ("times", 1), ["times"], "times", ("more", 0), ("enter", "a"), ("may", "a", 10 ** 6 + 1)]:
            self.wrong("pair", sheet, value, ("times", ()), None)
            self.wrong("pair", sheet, value, ("refused",), None)
            self.wrong("run", sheet, (value,), (right,))
            self.wrong("run", sheet, (("times",), value), (right, (("refused",), None)))
            self.wrong("run", sheet, value, ())
        self.wrong("run", sheet, [("times",)], (right,))
        self.right("run", sheet, (("times",),), (right,))

    def test_not_so(self):
        right = self.some_statements()
        values = (None, right[0], Sour(), right[5], ("held",), right[-1], (), "run")
        self.assertEqual(not_so(values), (0, 2, 4, 6, 7))
        self.assertEqual(not_so(()), ())
        self.assertEqual(not_so(tuple(odd_values())), tuple(range(len(odd_values()))))
