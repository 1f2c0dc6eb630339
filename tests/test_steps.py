"""Tests of handsorted.steps: the texts of steps, reading them, and comparing steps."""

import unittest

from handsorted import steps
from handsorted.errors import BadStep
from handsorted.steps import AddStep, DropStep, FieldsStep, GroupStep, MoveStep, ResetStep, RuleStep, Step
from tests.samples import any_values
from tests.step_words import group_texts, is_step_text, nearly_texts, nested_text, plain_texts

KINDS = (AddStep, DropStep, FieldsStep, RuleStep, MoveStep, ResetStep, GroupStep)
BIG = 10 ** 60 - 1
BIG_WORD = "9" * 60


def class_of(text):
    """Return the class of the step of a text."""
    words = {"add": AddStep, "drop": DropStep, "fields": FieldsStep, "rule": RuleStep, "move": MoveStep,
             "reset": ResetStep, "(": GroupStep}
    return words[text.split(" ")[0]]


def nested_step(step, depth):
    """Return groups around a step."""
    for _ in range(depth):
        step = GroupStep(step)
    return step


class Texts(unittest.TestCase):

    def check(self, step, text):
        self.assertEqual(step.text, text)
        self.assertIs(type(step.text), str)

    def test_no_integers(self):
        self.check(DropStep(), "drop")
        self.check(RuleStep(), "rule")
        self.check(ResetStep(), "reset")
        self.check(MoveStep(), "move behind 0")
        self.check(MoveStep(behind=7), "move behind 7")
        self.check(AddStep(3), "add 3")
        self.check(FieldsStep(3), "fields 3")

    def test_some_integers(self):
        self.check(AddStep(3, 7), "add 3 7")
        self.check(AddStep(3, 7, 0, 12), "add 3 7 0 12")
        self.check(FieldsStep(5, 0, 1), "fields 5 0 1")
        self.check(DropStep(4, 2), "drop 4 2")
        self.check(DropStep(4, 4), "drop 4 4")
        self.check(RuleStep(2, 1), "rule 2 1")
        self.check(MoveStep(3, 4, behind=7), "move 3 4 behind 7")
        self.check(MoveStep(3, 4), "move 3 4 behind 0")
        self.check(ResetStep(9, 1, 8), "reset 9 1 8")

    def test_negative_integers(self):
        self.check(AddStep(-3, -7), "add -3 -7")
        self.check(FieldsStep(-5, -1, 0), "fields -5 -1 0")
        self.check(DropStep(-4, 2), "drop -4 2")
        self.check(RuleStep(-2, -1), "rule -2 -1")
        self.check(MoveStep(-3, behind=-7), "move -3 behind -7")
        self.check(ResetStep(-9), "reset -9")

    def test_integers_of_sixty_digits(self):
        self.check(AddStep(BIG, -BIG), f"add {BIG_WORD} -{BIG_WORD}")
        self.check(FieldsStep(-BIG, BIG), f"fields -{BIG_WORD} {BIG_WORD}")
        self.check(DropStep(BIG), f"drop {BIG_WORD}")
        self.check(RuleStep(10 ** 59), "rule 1" + "0" * 59)
        self.check(MoveStep(BIG, behind=-BIG), f"move {BIG_WORD} behind -{BIG_WORD}")
        self.check(ResetStep(BIG, BIG), f"reset {BIG_WORD} {BIG_WORD}")

    def test_groups(self):
        self.check(GroupStep(), "( )")
        self.check(GroupStep(DropStep()), "( drop )")
        self.check(GroupStep(RuleStep(), MoveStep(3, 4, behind=7)), "( rule ; move 3 4 behind 7 )")
        self.check(GroupStep(AddStep(1, 2), FieldsStep(3, -4), ResetStep(5)), "( add 1 2 ; fields 3 -4 ; reset 5 )")

    def test_groups_inside_groups(self):
        self.check(GroupStep(GroupStep()), "( ( ) )")
        self.check(GroupStep(GroupStep(), DropStep(1), GroupStep(RuleStep(1))), "( ( ) ; drop 1 ; ( rule 1 ) )")
        for depth in (2, 7, 8, 9, 20):
            self.check(nested_step(DropStep(1), depth), nested_text("drop 1", depth))

    def test_texts_longer_than_what_can_be_read(self):
        step = DropStep(*range(1, 301))
        self.check(step, "drop " + " ".join(str(row_id) for row_id in range(1, 301)))
        self.assertGreater(len(step.text), 1000)
        group = GroupStep(*[MoveStep(row_id) for row_id in range(1, 301)])
        self.check(group, "( " + " ; ".join(f"move {row_id} behind 0" for row_id in range(1, 301)) + " )")

    def test_arguments_by_name(self):
        self.check(AddStep(row_id=3), "add 3")
        self.check(FieldsStep(row_id=3), "fields 3")
        self.check(MoveStep(behind=3), "move behind 3")

    def test_the_text_cannot_be_assigned(self):
        for step in (AddStep(1, 2), GroupStep()):
            with self.assertRaises(AttributeError):
                step.text = "drop"

    def test_a_group_keeps_its_steps(self):
        inside = [DropStep(1), DropStep(2)]
        group = GroupStep(*inside)
        inside.clear()
        self.check(group, "( drop 1 ; drop 2 )")


class Reading(unittest.TestCase):

    def check_wrong(self, value):
        with self.subTest(value=value):
            with self.assertRaises(BadStep) as caught:
                Step.read(value)
            self.assertIs(type(caught.exception), BadStep)
            self.assertIs(caught.exception.value, value)

    def check_right(self, text, step=None):
        with self.subTest(text=text):
            found = Step.read(text)
            self.assertIs(type(found), class_of(text))
            self.assertEqual(found.text, text)
            if step is not None:
                self.assertEqual(found, step)

    def test_every_kind(self):
        for text in plain_texts() + group_texts():
            self.check_right(text)

    def test_examples_of_each_kind(self):
        self.check_right("add 3 7 -8", AddStep(3, 7, -8))
        self.check_right("add 3", AddStep(3))
        self.check_right("drop", DropStep())
        self.check_right("drop 3 1", DropStep(3, 1))
        self.check_right("fields 3 0", FieldsStep(3, 0))
        self.check_right("rule -2 1", RuleStep(-2, 1))
        self.check_right("move 3 4 behind 7", MoveStep(3, 4, behind=7))
        self.check_right("move behind 7", MoveStep(behind=7))
        self.check_right("move 3 behind 0", MoveStep(3))
        self.check_right("reset 0", ResetStep(0))
        self.check_right("( )", GroupStep())
        self.check_right("( rule ; ( drop 1 ; reset ) )", GroupStep(RuleStep(), GroupStep(DropStep(1), ResetStep())))

    def test_by_name(self):
        self.assertEqual(Step.read(text="drop 3"), DropStep(3))

    def test_other_values(self):
        for value in any_values() + [["drop"], ("drop",), {"drop": 1}, DropStep, 10 ** 60 - 1]:
            self.check_wrong(value)

    def test_unknown_words(self):
        for text in ("", " ", "\n", "dropp 1", "Drop 1", "DROP", "1", "1 drop", "show", "undo", "item 1 2", "list 1",
                     "behind 7", " behind 7", ";", "(", ")", "[ ]", "drop,1", "drop\n", "drop\n1", "drop 1\n",
                     "\ndrop"):
            self.check_wrong(text)

    def test_missing_parts(self):
        for text in ("add", "fields", "move", "move 3", "move 3 behind", "move behind", "move behind 7 8",
                     "move 3 behind 7 8", "move 3 behind 4 behind 5", "move behind behind 7", "move behind 7 behind",
                     "drop behind 7", "add behind 7", "add 3 behind 7", "fields 3 4 behind 0", "rule behind 1",
                     "reset 1 behind 2", "move 3 4 7", "move 3 0behind 4"):
            self.check_wrong(text)

    def test_a_space_too_many_or_too_few(self):
        for text in plain_texts() + group_texts():
            self.check_wrong(" " + text)
            self.check_wrong(text + " ")
            for at, sign in enumerate(text):
                if sign == " ":
                    self.check_wrong(text[:at] + " " + text[at:])
        for text in ("()", "(drop )", "( drop)", "(drop)", "( drop; rule )", "( drop ;rule )", "( drop;rule )",
                     "((  ))", "(( ) )", "( ( ))", "drop1", "add3 7", "move3 behind 4", "move 3 behind4"):
            self.check_wrong(text)

    def test_how_integers_are_written(self):
        for word in ("00", "01", "-0", "-01", "--1", "+1", "+0", "-", "+", "1.0", "1e3", "1_000", "0x1", "1,", "a",
                     "one", "1-", "1-2", "\u0663", "\u00b2", "\uff11", "1\u0663", "\u2460", "-\u0663", "None", "True",
                     "1\n", "\n1", "1\t", "1" * 61, "-" + "1" * 61, "1" + "0" * 60, "0" * 60):
            for text in ("drop {}", "drop 5 {}", "drop {} 5", "add {} 1", "add 1 {}", "fields {}", "rule {}",
                         "reset {}", "move {} behind 1", "move 1 behind {}", "move behind {}", "( drop ; reset {} )"):
                self.check_wrong(text.format(word))

    def test_integers_of_sixty_digits(self):
        for word in (BIG_WORD, "-" + BIG_WORD, "1" + "0" * 59, "-1" + "0" * 59):
            self.check_right(f"drop {word}", DropStep(int(word)))
            self.check_right(f"move {word} behind {word}", MoveStep(int(word), behind=int(word)))

    def test_parentheses(self):
        for text in ("( drop", "drop )", "( drop ) )", "( ( drop )", ") drop (", "( ; )", "( drop ; )", "( ; drop )",
                     "( drop ; ; drop )", "( drop drop )", "drop ; drop", "( drop ) ; drop", "( drop ) drop",
                     "( drop ) ( drop )", "( ) ( )", "( ( ) ( ) )", "drop ( )", "( drop ( ) )", "( ( ) drop )", "( ) ;",
                     "; ( )", "( ( ) ; )", "( move 3 ; behind 4 )", "( drop ;; drop )", "( ( ; ) )", "( 3 )"):
            self.check_wrong(text)
        for text in group_texts():
            for at, sign in enumerate(text):
                if sign in "()":
                    self.check_wrong(text[:at] + text[at + 1:])
                    self.check_wrong(text[:at] + sign + text[at:])
                    self.check_wrong(text[:at] + sign + " " + text[at:])

    def test_depths(self):
        for inside in ("drop", "( )", "( drop ; ( ) )"):
            for depth in range(12):
                text = nested_text(inside, depth)
                deep = depth + {"drop": 0, "( )": 1, "( drop ; ( ) )": 2}[inside]
                (self.check_right if deep <= 8 else self.check_wrong)(text)
        for text in ("( " * 500, "( " * 499, ") " * 400, nested_text("", 240), "( " * 300 + "drop" + " )" * 40):
            self.check_wrong(text)
        self.check_wrong("( drop ; " + nested_text("drop", 8) + " )")
        self.check_right("( drop ; " + nested_text("drop", 7) + " ; " + nested_text("rule", 7) + " )")

    def test_lengths(self):
        right = "drop" + " 1" * 498
        self.assertEqual(len(right), 1000)
        self.check_right(right)
        self.check_right("drop 12" + " 1" * 496)
        self.check_wrong("drop 12" + " 1" * 497)
        self.check_wrong("drop 123" + " 1" * 497)
        self.check_wrong(DropStep(*range(1, 301)).text)
        right = "( " + "drop ; " * 141 + "drop 12345" + " )"
        self.assertEqual(len(right), 1001)
        self.check_wrong(right)
        self.check_right(right.replace("12345", "1234"))

    def test_texts_that_differ_a_little(self):
        right = 0
        for text in nearly_texts(plain_texts() + group_texts(), 150):
            if is_step_text(text):
                right += 1
                self.check_right(text)
            else:
                self.check_wrong(text)
        self.assertGreater(right, 500)

    def test_reading_off_a_class_below(self):
        self.assertEqual(AddStep.read("drop 3"), DropStep(3))


class Equality(unittest.TestCase):

    def test_same_class_and_text(self):
        for text in plain_texts() + group_texts():
            self.assertTrue(Step.read(text) == Step.read(text))
            self.assertFalse(Step.read(text) != Step.read(text))

    def test_other_class_or_text(self):
        found = [Step.read(text) for text in plain_texts() + group_texts()]
        for place, step in enumerate(found):
            for at, other in enumerate(found):
                self.assertEqual(step == other, place == at)
                self.assertEqual(step != other, place != at)

    def test_the_sequence_counts(self):
        self.assertNotEqual(DropStep(1, 2), DropStep(2, 1))
        self.assertNotEqual(GroupStep(DropStep(), RuleStep()), GroupStep(RuleStep(), DropStep()))
        self.assertEqual(GroupStep(DropStep(), RuleStep()), GroupStep(DropStep(), RuleStep()))
        self.assertNotEqual(GroupStep(DropStep()), DropStep())
        self.assertNotEqual(GroupStep(GroupStep()), GroupStep())

    def test_defaults(self):
        self.assertEqual(MoveStep(1), MoveStep(1, behind=0))
        self.assertNotEqual(MoveStep(1), MoveStep(1, behind=2))

    def test_other_classes_with_the_same_text(self):
        class OwnDrop(DropStep):
            """A class below, whose steps have the same texts."""
        self.assertEqual(OwnDrop(1).text, DropStep(1).text)
        self.assertNotEqual(OwnDrop(1), DropStep(1))
        self.assertNotEqual(DropStep(1), OwnDrop(1))
        self.assertEqual(OwnDrop(1), OwnDrop(1))

    def test_other_values(self):
        for value in any_values() + ["drop", ("drop",), object(), DropStep]:
            self.assertFalse(DropStep() == value)
            self.assertTrue(DropStep() != value)
            self.assertFalse(value == DropStep())


class Definitions(unittest.TestCase):

    def test_the_classes(self):
        for kind in KINDS:
            self.assertEqual(kind.__bases__, (Step,))
            self.assertEqual(kind.__module__, "handsorted.steps")
        self.assertEqual(Step.__module__, "handsorted.steps")
        for name in ("text", "run", "read", "__eq__"):
            self.assertIn(name, vars(Step))
        for kind in KINDS:
            self.assertIs(vars(steps)[kind.__name__], kind)


if __name__ == "__main__":
    unittest.main()
