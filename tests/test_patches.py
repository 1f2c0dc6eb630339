"""Tests of handsorted.patches."""

import unittest
from random import Random

from handsorted import patches
from handsorted.covers import level_cover
from handsorted.errors import BadMove, HandError
from handsorted.handlist import HandList
from handsorted.patches import is_patch, patch
from handsorted.scripts import is_least_script
from handsorted.steps import AddStep, DropStep, FieldsStep, GroupStep, MoveStep, ResetStep, RuleStep, Step
from tests.lists import filled, held, items_of, whole
from tests.words import best_by_search, laid, sorted_by


def some_list(random, width=2):
    """Return a list of some of few ids, with things to undo and to redo."""
    columns = random.sample(range(1, width + 1), random.randrange(width + 1))
    hand = HandList(width, rule=tuple(random.choice((1, -1)) * column for column in columns))
    for row_id in random.sample(range(1, 9), random.randrange(8)):
        hand.add_item(row_id, *[random.randrange(2) for _ in range(width)])
    for _ in range(random.randrange(4)):
        ids = random.sample(hand.order, random.randrange(min(3, len(hand)) + 1))
        if ids:
            hand.move(*ids, behind=random.choice([0] + [row_id for row_id in hand.order if row_id not in ids]))
    if random.random() < 0.5:
        hand.drop()
        hand.undo()
    return hand


def parts(hand):
    return (hand.width, items_of(hand), hand.rule, hand.order)


def patch_by_words(first, second):
    """Return the texts of the steps of the patch, as the document tells them."""
    olds, news = items_of(first), items_of(second)
    gone = sorted(set(olds) - set(news))
    texts = ["drop " + " ".join(str(row_id) for row_id in gone)] if gone else []

    def item(word, row_id):
        return " ".join(str(part) for part in (word, row_id, *news[row_id]))
    texts += [item("fields", row_id) for row_id in sorted(olds) if row_id in news and olds[row_id] != news[row_id]]
    if first.rule != second.rule:
        texts.append(" ".join(str(part) for part in ("rule", *second.rule)))
    texts += [item("add", row_id) for row_id in sorted(news) if row_id not in olds]
    return texts


def moves_by_words(order, second):
    """Return the texts of the moves of the least script from an order to another one."""
    kept = best_by_search(order, second)
    return [f"move {row_id} behind {before}" for before, row_id in zip([0, *second], second) if row_id not in kept]


class Patches(unittest.TestCase):

    def check(self, first, second, *wanted):
        """Check the steps of a patch, and what it does."""
        before = whole(first), whole(second)
        found = patch(first, second)
        self.assertIs(type(found), GroupStep)
        self.assertEqual(found.text, f"( {' ; '.join(wanted)} )" if wanted else "( )")
        self.assertEqual((whole(first), whole(second)), before)
        self.assertIs(is_patch(first, second, found), True)
        self.assertEqual((whole(first), whole(second)), before)
        hand = first.copied()
        self.assertIsNone(found.run(hand))
        self.assertEqual(parts(hand), parts(second))
        hand.undo()
        self.assertEqual(hand, first)

    def test_the_example(self):
        first = HandList(1)
        first.add_item(1, 5)
        second = HandList(1)
        second.add_item(2, 5)
        self.check(first, second, "drop 1", "add 2 5")

    def test_nothing_differs(self):
        for width in (1, 2, 3, 4):
            self.check(HandList(width), HandList(width))
        hand = filled(1, 2, 3)
        self.check(hand, hand)
        hand.move(3)
        self.check(hand, hand.copied())

    def test_dropping(self):
        self.check(filled(1, 2, 3), filled(1), "drop 2 3")
        first = filled(5, 4, 3, 2, 1)
        self.assertEqual(first.order, [5, 4, 3, 2, 1])
        second = first.copied()
        second.drop(5, 2)
        self.check(first, second, "drop 2 5")
        self.check(first, HandList(1, rule=(1,)), "drop 1 2 3 4 5")

    def test_changing_fields(self):
        second = filled(1, 9, 3, 0)
        self.check(filled(1, 2, 3, 4), second, "fields 2 9", "fields 4 0")
        first = filled((1, 2), (3, 4), width=2)
        second = first.copied()
        second.set_fields(2, 3, -5)
        self.check(first, second, "fields 2 3 -5")

    def test_changing_the_rule(self):
        first = filled(1, 2, 3)
        for rule, text in (((), "rule"), ((-1,), "rule -1")):
            second = first.copied()
            second.rule = rule
            self.check(first, second, text)
        second = first.copied()
        second.rule = ()
        self.check(second, first, "rule 1")

    def test_adding(self):
        first = filled(1)
        second = filled(1)
        for row_id in (9, 3, 7):
            second.add_item(row_id, -row_id)
        self.check(first, second, "add 3 -3", "add 7 -7", "add 9 -9")

    def test_moving(self):
        first, second = filled(1, 2, 3, 4), filled(1, 2, 3, 4)
        second.move(3, 4)
        self.check(first, second, "move 1 behind 4", "move 2 behind 1")
        self.check(second, first, "move 3 behind 2", "move 4 behind 3")
        second.reset(3, 4)
        second.move(4)
        self.check(first, second, "move 4 behind 0")
        self.check(second, first, "move 4 behind 3")

    def test_the_moves_begin_with_the_order_that_the_list_has_by_then(self):
        first, second = filled(1, 2, 3), filled(1, 2, 3)
        first.move(3)
        second.rule = (-1,)
        second.move(1)
        self.assertEqual((first.order, second.order), ([3, 1, 2], [1, 3, 2]))
        self.check(first, second, "rule -1", "move 1 behind 0")
        second = filled(1, 2)
        self.check(first, second, "drop 3")
        second.add_item(4, 0)
        self.check(first, second, "drop 3", "add 4 0")

    def test_all_kinds_in_their_sequence(self):
        first = filled((1, 1), (2, 2), (3, 3), (4, 4), rule=(1,), width=2)
        second = HandList(2, rule=(-2,))
        for row_id, *fields in ((7, 0, 0), (2, 2, 2), (6, 9, 9), (4, 5, 4)):
            second.add_item(row_id, *fields)
        second.move(7, behind=6)
        self.assertEqual(second.order, [6, 7, 4, 2])
        self.check(first, second, "drop 1 3", "fields 4 5 4", "rule -2", "add 6 9 9", "add 7 0 0", "move 7 behind 6")

    def test_the_pins_may_differ(self):
        first, second = filled(1, 2), filled(1, 2)
        first.move(2)
        second.move(1, behind=2)
        self.assertNotEqual(first.pins, second.pins)
        self.check(first, second)

    def test_many_lists(self):
        for seed in range(300):
            random = Random(seed)
            width = random.randrange(1, 5)
            first, second = some_list(random, width), some_list(random, width)
            if seed % 3 == 0:
                second = first.copied()
                for row_id in random.sample(first.order, min(2, len(first))):
                    second.move(row_id)
            texts = patch_by_words(first, second)
            hand = first.copied()
            for text in texts:
                Step.read(text).run(hand)
            self.assertEqual(items_of(hand), items_of(second))
            moves = moves_by_words(hand.order, second.order)
            self.check(first, second, *texts, *moves)
            done = [((int(move.split(" ")[1]),), int(move.split(" ")[3])) for move in moves]
            cover = level_cover(hand.order, second.order)
            self.assertTrue(is_least_script(hand.order, second.order, done, cover))

    def test_full_lists(self):
        items = {row_id: (row_id % 7,) for row_id in range(1, 301)}
        first = HandList.made(1, (1,), items, {})
        second = HandList.made(1, (-1,), {row_id + 150: fields for row_id, fields in items.items()}, {})
        found = patch(first, second)
        found.run(first)
        self.assertEqual(parts(first), parts(second))

    def test_other_widths(self):
        for one in (1, 2, 3, 4):
            for other in (1, 2, 3, 4):
                if one != other:
                    first, second = HandList(one), HandList(other)
                    first.add_item(1, *[5] * one)
                    before = whole(first), whole(second)
                    with self.assertRaises(HandError) as caught:
                        patch(first, second)
                    self.assertIs(type(caught.exception), BadMove)
                    self.assertEqual(caught.exception.value, (one, other))
                    self.assertEqual((whole(first), whole(second)), before)

    def test_by_name(self):
        first, second = filled(1), filled(2)
        found = patch(second=second, first=first)
        self.assertEqual(found.text, "( fields 1 2 )")
        self.assertTrue(is_patch(step=found, second=second, first=first))

    def test_laying_agrees_with_the_words(self):
        """What the checks above rest on: the order of a list is its pins, laid over the rule's order."""
        for seed in range(50):
            hand = some_list(Random(seed))
            self.assertEqual(hand.order, laid(sorted_by(hand.rule, items_of(hand)), hand.pins))


class WhetherItIsAPatch(unittest.TestCase):

    def check(self, first, second, step, right):
        before = whole(first), whole(second)
        self.assertIs(is_patch(first, second, step), right)
        self.assertEqual((whole(first), whole(second)), before)

    def setUp(self):
        self.first = filled((1, 1), (2, 2), (3, 3), rule=(1,), width=2)
        self.first.move(3)
        self.first.undo()
        self.second = self.first.copied()
        self.second.move(3)
        self.second.drop()
        self.second.undo()

    def test_right_steps(self):
        for step in (MoveStep(3), GroupStep(MoveStep(3)), MoveStep(1, 2, behind=3), GroupStep(DropStep(), MoveStep(3)),
                     GroupStep(MoveStep(1, behind=3), MoveStep(2, behind=1)),
                     GroupStep(RuleStep(2), MoveStep(3), RuleStep(1)),
                     GroupStep(AddStep(9, 0, 0), DropStep(9), MoveStep(3))):
            self.check(self.first, self.second, step, True)

    def test_wrong_steps(self):
        for step in (GroupStep(), DropStep(), DropStep(3), MoveStep(2), MoveStep(3, behind=1), RuleStep(-1),
                     ResetStep(), GroupStep(MoveStep(3), RuleStep()), GroupStep(MoveStep(3), FieldsStep(3, 3, 4)),
                     GroupStep(MoveStep(3), AddStep(9, 9, 9)), GroupStep(MoveStep(3), DropStep(2))):
            self.check(self.first, self.second, step, False)

    def test_only_the_rule_or_only_the_fields_differ(self):
        other = self.first.copied()
        other.rule = (2,)
        self.assertEqual((other.order, items_of(other)), (self.first.order, items_of(self.first)))
        self.check(self.first, other, GroupStep(), False)
        self.check(self.first, other, RuleStep(2), True)
        other = self.first.copied()
        other.set_fields(3, 3, 9)
        self.assertEqual((other.order, other.rule), (self.first.order, self.first.rule))
        self.check(self.first, other, GroupStep(), False)
        self.check(self.first, other, FieldsStep(3, 3, 9), True)

    def test_only_the_order_differs(self):
        self.check(self.first, self.second, GroupStep(), False)
        self.check(self.first, self.first, GroupStep(), True)
        self.check(self.second, self.second, MoveStep(3), True)

    def test_other_widths(self):
        self.check(HandList(1), HandList(2), GroupStep(), False)
        self.check(HandList(1), HandList(2), DropStep(), False)
        self.check(HandList(2), HandList(2), DropStep(), True)
        self.check(HandList(4), HandList(1), RuleStep(), False)

    def test_steps_that_raise_an_error(self):
        for step in (DropStep(9), DropStep(0), MoveStep(), MoveStep(9), RuleStep(3), AddStep(1, 1, 1), AddStep(9, 1),
                     FieldsStep(9, 1, 1), FieldsStep(1), ResetStep(1, 1), GroupStep(MoveStep(3), DropStep(9)),
                     GroupStep(DropStep(9), MoveStep(3))):
            self.check(self.first, self.second, step, False)
            self.check(self.first, self.first, step, False)
        full = HandList.made(1, (), {row_id: (0,) for row_id in range(1, 301)}, {})
        self.check(full, full, AddStep(301, 5), False)
        self.check(full, full, GroupStep(AddStep(301, 5), DropStep(301)), False)

    def test_the_pins_do_not_matter(self):
        first, second = filled(1, 2), filled(1, 2)
        first.move(2)
        second.move(1, behind=2)
        self.assertNotEqual(first, second)
        self.check(first, second, GroupStep(), True)
        self.check(first, second, DropStep(), True)

    def test_patches_of_other_lists(self):
        lists = [some_list(Random(seed)) for seed in range(12)]
        for first in lists:
            for second in lists:
                step = patch(first, second)
                self.check(first, second, step, True)
                for other in lists:
                    self.check(first, other, step, parts(other) == parts(second))
                    hand = other.copied()
                    try:
                        step.run(hand)
                        right = parts(hand) == parts(second)
                    except HandError:
                        right = False
                    self.check(other, second, step, right)

    def test_definitions(self):
        self.assertEqual({patches.patch.__module__, patches.is_patch.__module__}, {"handsorted.patches"})
        self.assertEqual(held(self.first)[0], 2)


if __name__ == "__main__":
    unittest.main()
