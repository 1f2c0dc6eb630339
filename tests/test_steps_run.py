"""Tests of handsorted.steps: what steps do with a list."""

import re
import unittest
from random import Random

from handsorted.errors import BadItem, BadMove, BadRule, HandError, NothingToDo, TakenId, TooMany, UnknownId
from handsorted.handlist import HandList
from handsorted.steps import AddStep, DropStep, FieldsStep, GroupStep, MoveStep, ResetStep, RuleStep, Step
from tests.lists import filled, held, items_of, whole

TOP_ID = 10 ** 6
BIG = 10 ** 60 - 1


def sample():
    """Return a list with something to undo and something to redo."""
    hand = filled((5, 1), (4, 2), (3, 3), (2, 4), rule=(-2,), width=2)
    hand.move(3, behind=1)
    hand.move(2)
    hand.undo()
    return hand


def pairs():
    """Return steps and the changes of a list that they write down."""
    return [
        (AddStep(9, 1, 2), lambda hand: hand.add_item(9, 1, 2)),
        (DropStep(), lambda hand: hand.drop()),
        (DropStep(3), lambda hand: hand.drop(3)),
        (DropStep(1, 4, 3), lambda hand: hand.drop(1, 4, 3)),
        (FieldsStep(3, -1, 9), lambda hand: hand.set_fields(3, -1, 9)),
        (RuleStep(), lambda hand: hand.set_rule(())),
        (RuleStep(2), lambda hand: hand.set_rule((2,))),
        (RuleStep(-1, 2), lambda hand: hand.set_rule((-1, 2))),
        (MoveStep(3), lambda hand: hand.move(3)),
        (MoveStep(2, 4, behind=3), lambda hand: hand.move(2, 4, behind=3)),
        (MoveStep(3, behind=1), lambda hand: hand.move(3, behind=1)),
        (ResetStep(), lambda hand: hand.reset()),
        (ResetStep(3), lambda hand: hand.reset(3)),
        (ResetStep(4, 3, 2, 1), lambda hand: hand.reset(4, 3, 2, 1)),
    ]


def refused():
    """Return steps that the sample refuses, with the error, the name of its attribute and the value that it keeps."""
    return [
        (AddStep(0, 1, 2), BadItem, "value", (0, (1, 2))),
        (AddStep(-5, 1, 2), BadItem, "value", (-5, (1, 2))),
        (AddStep(TOP_ID + 1, 1, 2), BadItem, "value", (TOP_ID + 1, (1, 2))),
        (AddStep(9), BadItem, "value", (9, ())),
        (AddStep(9, 1), BadItem, "value", (9, (1,))),
        (AddStep(1, 1, 2, 3), BadItem, "value", (1, (1, 2, 3))),
        (AddStep(9, 1, BIG), BadItem, "value", (9, (1, BIG))),
        (AddStep(4, 1, 2), TakenId, "row_id", 4),
        (FieldsStep(0, 1, 2), BadItem, "value", (0, (1, 2))),
        (FieldsStep(9), BadItem, "value", (9, ())),
        (FieldsStep(1, 1, 2, 3), BadItem, "value", (1, (1, 2, 3))),
        (FieldsStep(9, 1, 2), UnknownId, "row_id", 9),
        (DropStep(1, 1), BadMove, "value", (1, 1)),
        (DropStep(0), BadMove, "value", (0,)),
        (DropStep(9, -BIG), BadMove, "value", (9, -BIG)),
        (DropStep(1, 8, 9), UnknownId, "row_id", 8),
        (ResetStep(9, 9), BadMove, "value", (9, 9)),
        (ResetStep(TOP_ID + 1), BadMove, "value", (TOP_ID + 1,)),
        (ResetStep(1, 9, 8), UnknownId, "row_id", 9),
        (RuleStep(0), BadRule, "value", (0,)),
        (RuleStep(3), BadRule, "value", (3,)),
        (RuleStep(1, -1), BadRule, "value", (1, -1)),
        (RuleStep(BIG), BadRule, "value", (BIG,)),
        (MoveStep(), BadMove, "value", ((), 0)),
        (MoveStep(behind=1), BadMove, "value", ((), 1)),
        (MoveStep(1, behind=1), BadMove, "value", ((1,), 1)),
        (MoveStep(1, 1), BadMove, "value", ((1, 1), 0)),
        (MoveStep(1, 9), BadMove, "value", ((1, 9), 0)),
        (MoveStep(1, behind=-1), BadMove, "value", ((1,), -1)),
        (MoveStep(0, behind=BIG), BadMove, "value", ((0,), BIG)),
    ]


class SingleSteps(unittest.TestCase):

    def test_each_kind_does_what_the_list_does(self):
        for step, change in pairs():
            with self.subTest(step=step.text):
                hand, other = sample(), sample()
                self.assertIsNone(step.run(hand))
                change(other)
                self.assertEqual(whole(hand), whole(other))

    def test_a_step_that_was_read(self):
        for step, _ in pairs():
            hand, other = sample(), sample()
            step.run(hand)
            Step.read(step.text).run(other)
            self.assertEqual(whole(hand), whole(other))

    def test_by_name(self):
        hand = sample()
        MoveStep(2).run(hand=hand)
        GroupStep(MoveStep(4)).run(hand=hand)
        self.assertEqual(hand.order[:2], [4, 2])

    def test_a_step_can_be_run_again(self):
        step = MoveStep(4)
        for hand in (sample(), sample()):
            step.run(hand)
            hand.move(1)
            step.run(hand)
            self.assertEqual(hand.order[0], 4)
        self.assertEqual(step, MoveStep(4))

    def test_every_error(self):
        for step, error, name, value in refused():
            with self.subTest(step=step.text):
                hand = sample()
                before = whole(hand)
                self.assertTrue(before[0] and before[2])
                with self.assertRaises(HandError) as caught:
                    step.run(hand)
                self.assertIs(type(caught.exception), error)
                self.assertEqual(getattr(caught.exception, name), value)
                self.assertEqual(whole(hand), before)

    def test_too_many(self):
        hand = HandList.made(1, (), {row_id: (0,) for row_id in range(1, 301)}, {})
        for step in (AddStep(301, 5), GroupStep(AddStep(301, 5)),
                     GroupStep(DropStep(7), AddStep(301, 5), AddStep(7, 1))):
            with self.assertRaises(TooMany) as caught:
                step.run(hand)
            self.assertEqual(caught.exception.count, 301)
            self.assertEqual(whole(hand), ([], held(hand), []))
        GroupStep(DropStep(7), AddStep(301, 5)).run(hand)
        self.assertEqual(len(hand), 300)


class Groups(unittest.TestCase):

    def test_a_group_is_one_change(self):
        hand = sample()
        past, now, _ = whole(hand)
        GroupStep(AddStep(9, 7, 7), MoveStep(9), RuleStep(1), DropStep(2), ResetStep(3), FieldsStep(4, 0, 0)).run(hand)
        then = held(hand)
        self.assertEqual(whole(hand), ([now] + past, then, []))
        hand.undo()
        self.assertEqual(whole(hand), (past, now, [then]))
        hand.redo()
        self.assertEqual(whole(hand), ([now] + past, then, []))

    def test_the_steps_are_done_one_after_the_other(self):
        steps = [AddStep(9, 7, 7), MoveStep(9, 2), RuleStep(1), DropStep(2), MoveStep(3, behind=9), FieldsStep(4, 0, 0)]
        hand, other = sample(), sample()
        GroupStep(*steps).run(hand)
        for step in steps:
            step.run(other)
        self.assertEqual(held(hand), held(other))

    def test_each_step_has_its_own_least_pins(self):
        hand = filled(5, 7)
        GroupStep(MoveStep(2), RuleStep(-1), RuleStep(1)).run(hand)
        self.assertEqual((hand.order, hand.pins), ([1, 2], {}))

    def test_a_group_without_steps_is_one_change_too(self):
        for group in (GroupStep(), GroupStep(GroupStep()), GroupStep(GroupStep(), GroupStep())):
            hand = sample()
            past, now, future = whole(hand)
            self.assertEqual(len(future), 1)
            self.assertIsNone(group.run(hand))
            self.assertEqual(whole(hand), ([now] + past, now, []))

    def test_groups_inside_groups(self):
        for depth in (1, 3, 8, 9, 20):
            hand = sample()
            past, now, _ = whole(hand)
            group = MoveStep(4)
            for _ in range(depth):
                group = GroupStep(MoveStep(2), group, MoveStep(3))
            group.run(hand)
            self.assertEqual(hand.order, [3, 4, 2, 1])
            self.assertEqual(whole(hand), ([now] + past, held(hand), []))

    def test_an_error_takes_everything_back(self):
        for step, error, name, value in refused():
            good = MoveStep(4, behind=2)
            for group in (GroupStep(step), GroupStep(good, step), GroupStep(step, good), GroupStep(good, step, good),
                          GroupStep(GroupStep(good), GroupStep(good, step), good),
                          GroupStep(GroupStep(GroupStep(step)))):
                hand = sample()
                before = whole(hand)
                with self.subTest(group=group.text):
                    with self.assertRaises(HandError) as caught:
                        group.run(hand)
                    self.assertIs(type(caught.exception), error)
                    self.assertEqual(getattr(caught.exception, name), value)
                    self.assertEqual(whole(hand), before)

    def test_the_first_error_is_raised(self):
        hand = sample()
        with self.assertRaises(UnknownId) as caught:
            GroupStep(MoveStep(2), DropStep(9), DropStep(8), RuleStep(3)).run(hand)
        self.assertEqual(caught.exception.row_id, 9)

    def test_an_error_only_behind_an_earlier_step(self):
        hand = sample()
        before = whole(hand)
        for group, error in ((GroupStep(DropStep(2), MoveStep(2)), BadMove),
                             (GroupStep(AddStep(9, 1, 1), AddStep(9, 1, 1)), TakenId),
                             (GroupStep(DropStep(2), GroupStep(ResetStep(1, 2))), UnknownId)):
            with self.assertRaises(error):
                group.run(hand)
            self.assertEqual(whole(hand), before)

    def test_nothing_is_left_to_undo_in_a_new_list(self):
        hand = HandList(1)
        with self.assertRaises(BadItem):
            GroupStep(AddStep(1, 5), AddStep(2)).run(hand)
        self.assertEqual(whole(hand), ([], held(HandList(1)), []))
        with self.assertRaises(NothingToDo):
            hand.undo()


class ManySteps(unittest.TestCase):

    def some_step(self, random, hand, depth=0):
        """Return a step, mostly one that the list does not refuse."""
        order = hand.order
        ids = random.sample(order, random.randrange(min(len(order), 3) + 1)) + [12] * (random.random() < 0.05)
        rest = [0] + [row_id for row_id in order if row_id not in ids]
        kind = random.choice(("add", "drop", "fields", "rule", "move", "move", "reset", "group", "group"))
        if kind == "add":
            return AddStep(random.randrange(1, 9), random.randrange(3), random.randrange(3))
        if kind == "drop":
            return DropStep(*ids[:1])
        if kind == "fields":
            return FieldsStep(random.choice(order or [1]), random.randrange(3), random.randrange(3))
        if kind == "rule":
            return RuleStep(*random.choice(((), (1,), (-2,), (2, -1), (1, 3))[:5 if random.random() < 0.2 else 4]))
        if kind == "move":
            return MoveStep(*ids, behind=random.choice(rest))
        if kind == "reset" or depth == 2:
            return ResetStep(*ids)
        return GroupStep(*[self.some_step(random, hand, depth + 1) for _ in range(random.randrange(4))])

    def run_plainly(self, hand, step):
        """Do what a text of a step says with a list, step by step; raise the error of the first one refused."""
        for text in re.split("[();]", step.text):
            if text.strip():
                Step.read(text.strip()).run(hand)

    def test_many_steps(self):
        errors = 0
        for seed in range(150):
            random = Random(seed)
            hand = filled((1, 2), (2, 1), (0, 0), (2, 2), rule=(1,), width=2)
            for _ in range(12):
                step = self.some_step(random, hand)
                past, now, future = whole(hand)
                other = hand.copied()
                error = None
                try:
                    self.run_plainly(other, step)
                except HandError as caught:
                    error = caught
                    errors += 1
                if error is None:
                    step.run(hand)
                    self.assertEqual(held(hand), held(other))
                    self.assertEqual(whole(hand), ([now] + past, held(hand), []))
                    self.assertEqual(len(items_of(hand)), len(hand))
                else:
                    with self.assertRaises(type(error)) as raised:
                        step.run(hand)
                    self.assertEqual(vars(raised.exception), vars(error))
                    self.assertEqual(whole(hand), (past, now, future))
        self.assertGreater(errors, 50)


if __name__ == "__main__":
    unittest.main()
