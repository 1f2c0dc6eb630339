"""Tests of handsorted.journal."""

import unittest
from random import Random

from handsorted.errors import BadMove, NothingToDo, TakenId, UnknownId
from handsorted.handlist import HandList
from handsorted.journal import Journal
from handsorted.steps import AddStep, DropStep, GroupStep, MoveStep, ResetStep, RuleStep, Step
from tests.lists import filled, held, whole


def texts(journal):
    return [text for _, text in journal.walk()]


class Journals(unittest.TestCase):

    def check(self, journal, *wanted):
        """Check which steps are done, by all that a journal tells."""
        self.assertEqual(list(journal.walk()), [(place + 1, text) for place, text in enumerate(wanted)])
        self.assertEqual(journal.text, "\n".join(wanted))
        self.assertIs(type(journal.text), str)

    def check_nothing(self, journal, call, action):
        before = whole(journal.subject), list(journal.walk())
        with self.assertRaises(NothingToDo) as caught:
            call()
        self.assertIs(type(caught.exception), NothingToDo)
        self.assertEqual(caught.exception.action, action)
        self.assertEqual((whole(journal.subject), list(journal.walk())), before)

    def test_a_new_journal(self):
        hand = filled(1, 2)
        before = whole(hand)
        journal = Journal(hand)
        self.check(journal)
        self.assertEqual(journal.text, "")
        self.assertIs(journal.subject, hand)
        self.assertEqual(whole(hand), before)
        self.check_nothing(journal, journal.undo, "undo")
        self.check_nothing(journal, journal.redo, "redo")

    def test_by_name(self):
        hand = HandList(1)
        self.assertIs(Journal(hand=hand).subject, hand)

    def test_the_subject_is_the_list_itself(self):
        hand = HandList(1)
        journal = Journal(hand)
        journal.run(AddStep(1, 5))
        self.assertIs(journal.subject, hand)
        self.assertEqual(hand.order, [1])
        with self.assertRaises(AttributeError):
            journal.subject = HandList(1)
        with self.assertRaises(AttributeError):
            journal.text = ""

    def test_running_steps(self):
        hand = HandList(1, rule=(1,))
        journal = Journal(hand)
        self.assertIsNone(journal.run(AddStep(10, 5), AddStep(20, 7)))
        self.check(journal, "add 10 5", "add 20 7")
        journal.run(MoveStep(20))
        self.check(journal, "add 10 5", "add 20 7", "move 20 behind 0")
        self.assertEqual((hand.order, hand.pins), ([20, 10], {20: 0}))
        journal.run()
        self.check(journal, "add 10 5", "add 20 7", "move 20 behind 0")
        journal.run(GroupStep(RuleStep(), DropStep(10)), GroupStep())
        self.check(journal, "add 10 5", "add 20 7", "move 20 behind 0", "( rule ; drop 10 )", "( )")
        self.assertEqual(held(hand), held(HandList.made(1, (), {20: (7,)}, {})))

    def test_each_step_is_one_change_of_the_list(self):
        hand = filled(1, 2, 3)
        past, now, _ = whole(hand)
        Journal(hand).run(MoveStep(3), GroupStep(MoveStep(2), MoveStep(1)), DropStep())
        self.assertEqual(whole(hand)[0][2:], [now] + past)

    def test_a_step_that_is_refused(self):
        hand = filled(1, 2, 3)
        journal = Journal(hand)
        with self.assertRaises(UnknownId) as caught:
            journal.run(MoveStep(3), MoveStep(2), DropStep(9), DropStep(1))
        self.assertEqual(caught.exception.row_id, 9)
        self.check(journal, "move 3 behind 0", "move 2 behind 0")
        self.assertEqual(hand.order, [2, 3, 1])
        with self.assertRaises(TakenId):
            journal.run(AddStep(1, 1), MoveStep(1))
        self.check(journal, "move 3 behind 0", "move 2 behind 0")
        self.assertEqual(hand.order, [2, 3, 1])
        with self.assertRaises(BadMove):
            journal.run(GroupStep(DropStep(1), MoveStep(1)))
        self.check(journal, "move 3 behind 0", "move 2 behind 0")
        journal.undo()
        self.assertEqual(hand.order, [3, 1, 2])
        journal.undo()
        self.assertEqual(hand.order, [1, 2, 3])
        self.check_nothing(journal, journal.undo, "undo")

    def test_a_step_that_is_refused_leaves_what_can_be_redone(self):
        hand = filled(1, 2, 3)
        journal = Journal(hand)
        journal.run(MoveStep(3), MoveStep(2))
        journal.undo()
        journal.undo()
        with self.assertRaises(BadMove):
            journal.run(MoveStep(9))
        journal.redo()
        journal.redo()
        self.check(journal, "move 3 behind 0", "move 2 behind 0")
        self.assertEqual(hand.order, [2, 3, 1])

    def test_undo_and_redo(self):
        hand = filled(1, 2, 3)
        journal = Journal(hand)
        journal.run(MoveStep(3), RuleStep(-1), GroupStep(DropStep(1), AddStep(4, 0)))
        states = [held(hand)]
        wanted = texts(journal)
        for done in (2, 1, 0):
            self.assertIsNone(journal.undo())
            self.check(journal, *wanted[:done])
            states.append(held(hand))
        self.assertEqual(hand, filled(1, 2, 3))
        self.check_nothing(journal, journal.undo, "undo")
        for done in (1, 2, 3):
            self.assertIsNone(journal.redo())
            self.check(journal, *wanted[:done])
            self.assertEqual(held(hand), states[3 - done])
        self.check_nothing(journal, journal.redo, "redo")

    def test_a_step_behind_an_undo(self):
        hand = filled(1, 2, 3)
        journal = Journal(hand)
        journal.run(MoveStep(3), MoveStep(2))
        journal.undo()
        journal.run(ResetStep())
        self.check(journal, "move 3 behind 0", "reset")
        self.check_nothing(journal, journal.redo, "redo")
        journal.undo()
        journal.run()
        journal.redo()
        self.check(journal, "move 3 behind 0", "reset")

    def test_only_steps_of_the_journal_are_undone_and_redone(self):
        hand = filled(1, 2, 3)
        hand.move(3)
        hand.undo()
        past, _, future = whole(hand)
        self.assertTrue(past and future)
        journal = Journal(hand)
        self.check_nothing(journal, journal.undo, "undo")
        self.check_nothing(journal, journal.redo, "redo")
        journal.run(MoveStep(2))
        journal.undo()
        self.check_nothing(journal, journal.undo, "undo")
        journal.redo()
        self.check_nothing(journal, journal.redo, "redo")

    def test_walking(self):
        journal = Journal(filled(1, 2, 3))
        journal.run(MoveStep(3), MoveStep(2))
        walk = journal.walk()
        journal.run(MoveStep(1))
        self.assertEqual(next(walk), (1, "move 3 behind 0"))
        journal.undo()
        journal.undo()
        journal.run(DropStep())
        self.assertEqual(list(walk), [(2, "move 2 behind 0"), (3, "move 1 behind 0")])
        self.check(journal, "move 3 behind 0", "drop")
        self.assertIs(type(next(journal.walk())), tuple)

    def test_the_text_can_be_read_again(self):
        journal = Journal(HandList(2))
        for seed in range(40):
            random = Random(seed)
            journal.run(AddStep(seed + 1, random.randrange(9), random.randrange(9)),
                        GroupStep(RuleStep(random.choice((1, -1, 2))), MoveStep(random.randrange(seed + 1) + 1)))
        other = HandList(2)
        for line in journal.text.split("\n"):
            Step.read(line).run(other)
        self.assertEqual(other, journal.subject)
        self.assertEqual(whole(other), whole(journal.subject))

    def test_two_journals_of_two_lists_share_nothing(self):
        first, second = Journal(HandList(1)), Journal(HandList(1))
        first.run(AddStep(1, 5))
        self.check(second)
        self.check_nothing(second, second.undo, "undo")

    def test_methods_are_defined_in_the_class_itself(self):
        self.assertEqual(Journal.__module__, "handsorted.journal")
        for name in ("run", "undo", "redo", "walk", "text", "subject"):
            self.assertIn(name, vars(Journal))


if __name__ == "__main__":
    unittest.main()
