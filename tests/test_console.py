"""Tests of handsorted.console."""

import unittest
from random import Random

from handsorted.console import Console
from handsorted.covers import level_cover
from handsorted.errors import BadCommand, BadItem, BadMove, BadRule, HandError, NothingToDo, TakenId, TooMany, UnknownId
from handsorted.handlist import HandList
from handsorted.items import rule_order
from handsorted.steps import Step
from handsorted.texts import list_text, read_list
from tests.lists import items_of
from tests.samples import any_values
from tests.step_words import group_texts, is_step_text, nearly_texts, nested_text, plain_texts

BIG_WORD = "9" * 60
COMMANDS = ("show", "pins", "cover", "undo", "redo", "save", "new 1", "new 2", "new 3", "new 4")


def told(*commands):
    """Return a console that was told some commands, and check that it did them."""
    console = Console()
    for command in commands:
        assert console.say(command) == "ok", command
    return console


def some_console():
    """Return a console with the order 5, 3, 1, two pins, something to undo and something to redo."""
    return told("rule 1", "add 3 7", "add 5 9", "add 1 8", "move 5 behind 0", "move 1 behind 3", "move 3 behind 5",
                "drop 1", "undo")


def everything(console):
    """Return all that a console tells of its list, of what it was before and of what it will be after a redo."""
    found = [[console.say(command) for command in ("save", "show", "pins", "cover")]]
    for action, back in (("undo", "redo"), ("redo", "undo")):
        count = 0
        try:
            while console.say(action) == "ok":
                count += 1
                found.append((action, console.say("save")))
        except NothingToDo:
            pass
        for _ in range(count):
            console.say(back)
    return found


class Answers(unittest.TestCase):

    def check(self, console, command, answer):
        before = everything(console)
        found = console.say(command)
        self.assertEqual(found, answer)
        self.assertIs(type(found), str)
        self.assertEqual(everything(console), before)

    def test_the_example(self):
        console = Console()
        self.assertEqual(console.say("( add 3 7 ; add 5 2 ; move 5 behind 0 )"), "ok")
        self.assertEqual(console.say("pins"), "5 behind 0")

    def test_the_first_list(self):
        console = Console()
        self.check(console, "show", "")
        self.check(console, "pins", "none")
        self.check(console, "cover", "none")
        self.check(console, "save", "list 1\nrule")
        for action in ("undo", "redo"):
            with self.assertRaises(NothingToDo) as caught:
                console.say(action)
            self.assertEqual(caught.exception.action, action)

    def test_show(self):
        self.check(some_console(), "show", "5 3 1")
        self.check(told("add 1000000 5"), "show", "1000000")
        self.check(told("add 2 1", "add 1 2"), "show", "1 2")

    def test_pins(self):
        self.check(told("add 1 1", "add 2 2"), "pins", "none")
        self.check(told("add 1 1", "add 2 2", "move 2 behind 0"), "pins", "2 behind 0")
        console = told("add 1 1", "add 2 2", "add 3 3", "add 4 4", "move 4 3 behind 0")
        self.check(console, "pins", "4 behind 0, 3 behind 4")
        console.say("move 3 behind 1")
        self.check(console, "pins", "4 behind 0, 3 behind 1")
        console.say("move 3 4 behind 1")
        self.check(console, "show", "1 3 4 2")
        self.check(console, "pins", "2 behind 4")

    def test_pins_come_in_the_order_of_the_list(self):
        console = told("add 1 1", "add 2 2", "add 3 3", "add 4 4", "add 5 5", "move 2 behind 5", "move 4 behind 0")
        self.check(console, "show", "4 1 3 5 2")
        self.check(console, "pins", "4 behind 0, 2 behind 5")

    def test_why(self):
        console = told("add 1 1", "add 2 2", "add 3 3", "move 3 behind 1", "move 2 behind 0")
        self.check(console, "show", "2 1 3")
        self.check(console, "pins", "2 behind 0")
        self.check(console, "why 2", "behind 0")
        self.check(console, "why 1", "by the rule")
        self.check(console, "why 3", "by the rule")
        console.say("move 1 behind 3")
        self.check(console, "show", "2 3 1")
        self.check(console, "why 1", "behind 3")
        self.check(console, "why 2", "by the rule")

    def test_why_an_unknown_id(self):
        for console in (Console(), some_console()):
            for word in ("2", "0", "-5", "-1", "1000000", "1000001", BIG_WORD, "-" + BIG_WORD):
                before = everything(console)
                with self.assertRaises(HandError) as caught:
                    console.say(f"why {word}")
                self.assertIs(type(caught.exception), UnknownId)
                self.assertEqual(caught.exception.row_id, int(word))
                self.assertEqual(everything(console), before)

    def test_cover(self):
        self.check(told("add 7 1"), "cover", "1: 7")
        self.check(told("add 1 1", "add 2 2"), "cover", "1: 1\n1: 2")
        self.check(told("add 1 1", "add 2 2", "move 2 behind 0"), "cover", "1: 2 1")
        console = told("add 1 1", "add 2 2", "add 3 3", "add 4 4", "move 3 4 behind 0")
        self.check(console, "show", "3 4 1 2")
        self.check(console, "cover", "1: 3 1\n1: 4 2")

    def test_save(self):
        self.check(some_console(), "save", "list 1\nrule 1\nitem 5 9 behind 0\nitem 3 7\nitem 1 8")
        console = told("new 2", "rule -2 1", "add 9 -1 0", "add 4 3 3", "move 9 behind 0")
        self.check(console, "save", "list 2\nrule -2 1\nitem 9 -1 0 behind 0\nitem 4 3 3")

    def test_by_name(self):
        self.assertEqual(Console().say(command="show"), "")


class Changes(unittest.TestCase):

    def test_every_kind_of_step(self):
        console = told("new 2", "add 1 5 5", "add 2 6 6", "add 3 7 7", "fields 2 0 9", "rule 1 -2", "drop 3",
                       "move 1 behind 0", "drop", "( )", "( reset 1 ; ( add 3 1 1 ; move 3 behind 0 ) )")
        self.assertEqual(console.say("save"), "list 2\nrule 1 -2\nitem 3 1 1 behind 0\nitem 2 0 9\nitem 1 5 5")

    def test_undo_and_redo(self):
        console = told("add 1 1", "add 2 2", "( move 2 behind 0 ; add 3 0 )")
        self.assertEqual(console.say("show"), "2 1 3")
        for answer in ("1 2", "1", ""):
            self.assertEqual(console.say("undo"), "ok")
            self.assertEqual(console.say("show"), answer)
        for answer in ("1", "1 2", "2 1 3"):
            self.assertEqual(console.say("redo"), "ok")
            self.assertEqual(console.say("show"), answer)

    def test_new(self):
        for width in (1, 2, 3, 4):
            console = some_console()
            self.assertEqual(console.say(f"new {width}"), "ok")
            self.assertEqual(everything(console), everything(Console()) if width == 1 else
                             [[f"list {width}\nrule", "", "none", "none"]])
            for action in ("undo", "redo"):
                with self.assertRaises(NothingToDo) as caught:
                    console.say(action)
                self.assertEqual(caught.exception.action, action)
            console.say("add 1" + " 5" * width)
            with self.assertRaises(BadItem):
                console.say("add 2" + " 5" * (width % 4 + 1))

    def test_two_consoles_share_nothing(self):
        first, second = Console(), Console()
        first.say("add 1 5")
        self.assertEqual((first.say("show"), second.say("show")), ("1", ""))
        second.say("new 2")
        second.say("add 7 5 5")
        self.assertEqual(first.say("save"), "list 1\nrule\nitem 1 5")
        self.assertEqual(second.say("save"), "list 2\nrule\nitem 7 5 5")
        first.say("undo")
        self.assertEqual(second.say("show"), "7")

    def test_errors_of_the_list(self):
        for command, error, name, value in (
                ("add 0 5", BadItem, "value", (0, (5,))), ("add 9", BadItem, "value", (9, ())),
                ("add 9 5 6", BadItem, "value", (9, (5, 6))), ("add 3 5", TakenId, "row_id", 3),
                ("fields 9 5", UnknownId, "row_id", 9), ("fields 3", BadItem, "value", (3, ())),
                ("drop 3 3", BadMove, "value", (3, 3)), ("drop 3 9", UnknownId, "row_id", 9),
                ("reset -1", BadMove, "value", (-1,)), ("reset 9", UnknownId, "row_id", 9),
                ("rule 2", BadRule, "value", (2,)), ("rule 1 -1", BadRule, "value", (1, -1)),
                ("move behind 0", BadMove, "value", ((), 0)), ("move 3 behind 3", BadMove, "value", ((3,), 3)),
                ("( drop 3 ; move 3 behind 0 )", BadMove, "value", ((3,), 0)),
                (f"move 3 behind {BIG_WORD}", BadMove, "value", ((3,), int(BIG_WORD)))):
            with self.subTest(command=command):
                console = some_console()
                before = everything(console)
                with self.assertRaises(HandError) as caught:
                    console.say(command)
                self.assertIs(type(caught.exception), error)
                self.assertEqual(getattr(caught.exception, name), value)
                self.assertEqual(everything(console), before)

    def test_too_many(self):
        console = told(*[f"add {row_id} 5" for row_id in range(1, 301)])
        with self.assertRaises(TooMany) as caught:
            console.say("add 301 5")
        self.assertEqual(caught.exception.count, 301)

    def test_the_same_as_a_list(self):
        """Every command, held against what the list's own methods and the functions tell."""
        for seed in range(30):
            random = Random(seed)
            console, hand = told("new 2"), HandList(2)
            for _ in range(25):
                ids = random.sample(hand.order, random.randrange(min(3, len(hand)) + 1))
                spaced = "".join(f" {row_id}" for row_id in ids)
                command = random.choice((f"add {random.randrange(1, 9)} {random.randrange(3)} {random.randrange(3)}",
                                         f"move{spaced} behind 0", f"reset{spaced}", f"drop{spaced[:2]}", "undo",
                                         "redo", random.choice(("rule", "rule 1", "rule -2 1")),
                                         f"( move{spaced} behind 0 ; drop )"))
                action = {"undo": hand.undo, "redo": hand.redo}.get(command) or (lambda: Step.read(command).run(hand))
                error = None
                try:
                    action()
                except HandError as caught:
                    error = caught
                if error is None:
                    self.assertEqual(console.say(command), "ok")
                else:
                    with self.assertRaises(type(error)) as raised:
                        console.say(command)
                    self.assertEqual(vars(raised.exception), vars(error))
                self.assertEqual(console.say("show"), " ".join(str(row_id) for row_id in hand.order))
                pins = ", ".join(f"{row_id} behind {hand.pins[row_id]}" for row_id in hand.order if row_id in hand.pins)
                self.assertEqual(console.say("pins"), pins or "none")
                for row_id in hand.order:
                    why = f"behind {hand.pins[row_id]}" if row_id in hand.pins else "by the rule"
                    self.assertEqual(console.say(f"why {row_id}"), why)
                cover = level_cover(rule_order(hand.rule, items_of(hand)), hand.order)
                runs = [f"{times}: " + " ".join(str(row_id) for row_id in run) for times, run in cover]
                self.assertEqual(console.say("cover"), "\n".join(runs) or "none")
                self.assertEqual(console.say("save"), list_text(hand))
                self.assertEqual(read_list(console.say("save")), hand)


class WrongCommands(unittest.TestCase):

    def setUp(self):
        self.console = some_console()
        self.before = everything(self.console)

    def check(self, *commands):
        for command in commands:
            with self.subTest(command=command):
                with self.assertRaises(HandError) as caught:
                    self.console.say(command)
                self.assertIs(type(caught.exception), BadCommand)
                self.assertIs(caught.exception.command, command)
        self.assertEqual(everything(self.console), self.before)

    def test_other_values(self):
        self.check(*any_values(), ["show"], ("show",), {"show": 1}, [["show"]], Step.read("drop"))

    def test_other_texts(self):
        self.check("", " ", "\n", "help", "Show", "SHOW", "show pins", "shows", "showpins", "pin", "none", "ok", "why",
                   "new", "load", "read", "quit", "list 1", "list 1\nrule", "item 1 5", "show\n", "\nshow",
                   "show\npins", "behind 3", "1", "3 1", "(", "( show )", "( undo )", "( new 1 )", "undo ; redo",
                   "( drop ; show )", "( why 3 )", "save 1", "undo 1", "redo 1", "cover 1", "show 3", "pins 3",
                   "show behind 0")

    def test_spaces_too_many(self):
        for command in COMMANDS + ("why 3",):
            self.check(" " + command, command + " ", command + "\n", "\t" + command, command.replace(" ", "  ") + " ")
        self.check("new  1", "why  3", "new\n1", "why\n3")
        for command in plain_texts() + group_texts():
            self.check(" " + command, command + " ")
            if " " in command:
                self.check(command.replace(" ", "  ", 1))

    def test_new(self):
        self.check("new", "new 0", "new 5", "new -1", "new 10", "new 01", "new +1", "new x", "new 1 1",
                   "new 1 behind 0", "new 1.0", "new \u0661", "new1", "New 1", f"new {BIG_WORD}", "new " + "1" * 61,
                   "new behind 1")

    def test_why(self):
        self.check("why", "why 03", "why -0", "why +3", "why x", "why 3 5", "why 3 3", "why 3 behind 5", "why behind 5",
                   "why 3?", "why3", "Why 3", "why \u0663", "why " + "1" * 61, "why -" + "1" * 61, "why 3.")

    def test_what_is_no_text_of_a_step(self):
        self.check("drop 01", "add", "move 3", "move 3 behind", "( drop", "drop )", "()", nested_text("drop", 9),
                   "drop" + " 1" * 499, "drop " + "1" * 61)
        for text in nearly_texts(plain_texts() + group_texts(), 10):
            if not is_step_text(text) and text not in COMMANDS:
                self.check(text)

    def test_the_longest_and_deepest_steps(self):
        with self.assertRaises(BadMove):
            self.console.say("drop" + " 1" * 498)
        self.assertEqual(self.console.say(nested_text("drop 1", 8)), "ok")
        self.assertEqual(self.console.say("show"), "5 3")

    def test_definitions(self):
        self.assertEqual(Console.__module__, "handsorted.console")
        self.assertIn("say", vars(Console))


if __name__ == "__main__":
    unittest.main()
