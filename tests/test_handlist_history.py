"""Tests of handsorted.handlist: undo, redo, groups, walking, comparing, making and copying."""

import unittest
from random import Random

from handsorted.errors import BadItem, BadMove, NothingToDo, TakenId, UnknownId
from handsorted.handlist import HandList
from tests.lists import filled, held, items_of, whole
from tests.samples import any_values


def changed():
    """Return a list with some changes behind it, and some undone."""
    hand = filled((5, 1), (4, 2), (3, 3), (2, 4), rule=(-2,), width=2)
    hand.move(3, behind=1)
    hand.rule = (1,)
    hand.move(2)
    hand.drop(1)
    hand.undo()
    hand.undo()
    return hand


def all_changes():
    """Return one change of every kind, and some that leave all as it is, as functions of a list."""
    return [
        lambda hand: hand.add_item(7, 3, 3),
        lambda hand: hand.drop(3),
        lambda hand: hand.drop(1, 2, 3, 4),
        lambda hand: hand.drop(),
        lambda hand: hand.set_fields(4, -9, 9),
        lambda hand: hand.set_fields(4, *hand.fields_of(4)),
        lambda hand: hand.set_rule((2, 1)),
        lambda hand: hand.set_rule(hand.rule),
        lambda hand: hand.move(4, 1, behind=2),
        lambda hand: hand.move(hand.order[0]),
        lambda hand: hand.reset(*hand.order),
        lambda hand: hand.reset(),
    ]


class UndoAndRedo(unittest.TestCase):

    def check_nothing(self, hand, call, action):
        before = whole(hand)
        with self.assertRaises(NothingToDo) as caught:
            call()
        self.assertIs(type(caught.exception), NothingToDo)
        self.assertEqual(caught.exception.action, action)
        self.assertEqual(whole(hand), before)

    def test_nothing_to_do(self):
        hand = HandList(1)
        self.check_nothing(hand, hand.undo, "undo")
        self.check_nothing(hand, hand.redo, "redo")
        hand.add_item(1, 5)
        self.check_nothing(hand, hand.redo, "redo")
        hand.undo()
        self.check_nothing(hand, hand.undo, "undo")
        hand.redo()
        self.check_nothing(hand, hand.redo, "redo")

    def test_every_change_by_itself(self):
        for number, change in enumerate(all_changes()):
            with self.subTest(number=number):
                hand = changed()
                past, now, _ = whole(hand)
                change(hand)
                then = held(hand)
                self.assertEqual(whole(hand), ([now] + past, then, []))
                self.check_nothing(hand, hand.redo, "redo")
                hand.undo()
                self.assertEqual(whole(hand), (past, now, [then]))
                hand.redo()
                self.assertEqual(whole(hand), ([now] + past, then, []))

    def test_changes_one_after_the_other(self):
        random = Random(7)
        for _ in range(20):
            hand = HandList.made(2, (1,), {1: (5, 1), 2: (4, 2), 3: (3, 3), 4: (2, 4)}, {1: 2})
            states = [held(hand)]
            for change in random.sample([all_changes()[at] for at in (0, 3, 4, 5, 6, 7, 8, 9, 10, 11)], 8):
                change(hand)
                states.append(held(hand))
            for at in range(7, -1, -1):
                hand.undo()
                self.assertEqual(whole(hand), (states[:at][::-1], states[at], states[at + 1:]))
            for at in range(1, 9):
                hand.redo()
                self.assertEqual(whole(hand), (states[:at][::-1], states[at], states[at + 1:]))

    def test_a_change_behind_an_undo(self):
        for number, change in enumerate(all_changes()):
            with self.subTest(number=number):
                hand = changed()
                hand.undo()
                past, now, future = whole(hand)
                self.assertEqual(len(future), 3)
                change(hand)
                self.assertEqual(whole(hand), ([now] + past, held(hand), []))

    def test_undo_brings_back_the_pins(self):
        hand = filled(1, 2, 3)
        hand.move(3)
        hand.set_fields(3, 0)
        self.assertEqual((hand.order, hand.pins), ([3, 1, 2], {}))
        hand.undo()
        self.assertEqual((hand.order, hand.pins, hand.fields_of(3)), ([3, 1, 2], {3: 0}, (3,)))
        hand.redo()
        self.assertEqual((hand.order, hand.pins, hand.fields_of(3)), ([3, 1, 2], {}, (0,)))

    def test_undo_brings_back_items_and_the_rule(self):
        hand = filled(1, 2, 3)
        hand.drop(1, 3)
        hand.rule = (-1,)
        hand.undo()
        self.assertEqual(hand.rule, (1,))
        hand.undo()
        self.assertEqual(items_of(hand), {1: (1,), 2: (2,), 3: (3,)})

    def test_a_call_that_raises_leaves_what_can_be_redone(self):
        hand = changed()
        before = whole(hand)
        self.assertEqual(len(before[2]), 2)
        for error, call in ((TakenId, lambda: hand.add_item(1, 1, 1)), (BadItem, lambda: hand.set_fields(1, 1)),
                            (UnknownId, lambda: hand.drop(2, 9)), (BadMove, lambda: hand.move(1, behind=1))):
            with self.assertRaises(error):
                call()
            self.assertEqual(whole(hand), before)

    def test_many_undos(self):
        hand = filled(1, 2)
        for _ in range(1000):
            hand.move(hand.order[1])
        for _ in range(1002):
            hand.undo()
        self.check_nothing(hand, hand.undo, "undo")
        for _ in range(1002):
            hand.redo()
        self.assertEqual(hand.order, [1, 2])


class Groups(unittest.TestCase):

    def test_changes_inside_count_as_one(self):
        hand = changed()
        past, now, _ = whole(hand)
        with hand.group():
            hand.move(4)
            hand.add_item(9, 1, 1)
            hand.rule = ()
            hand.drop(2)
            then = held(hand)
        self.assertEqual(whole(hand), ([now] + past, then, []))
        hand.undo()
        self.assertEqual(whole(hand), (past, now, [then]))
        hand.redo()
        self.assertEqual(whole(hand), ([now] + past, then, []))

    def test_the_changes_are_there_inside(self):
        hand = filled(1, 2, 3)
        with hand.group():
            hand.move(3)
            self.assertEqual(hand.order, [3, 1, 2])
            hand.drop(3)
            self.assertEqual(hand.order, [1, 2])

    def test_each_change_has_its_own_pins(self):
        hand = filled(1, 2)
        with hand.group():
            hand.move(2)
            hand.rule = (-1,)
            hand.rule = (1,)
        self.assertEqual((hand.order, hand.pins), ([1, 2], {}))

    def test_one_change(self):
        hand = changed()
        past, now, _ = whole(hand)
        with hand.group():
            hand.move(4)
        self.assertEqual(whole(hand), ([now] + past, held(hand), []))

    def test_no_changes(self):
        for hand in (changed(), HandList(1)):
            past, now, _ = whole(hand)
            with hand.group():
                pass
            self.assertEqual(whole(hand), ([now] + past, now, []))
            hand.undo()
            self.assertEqual(whole(hand), (past, now, [now]))
            hand.redo()
            self.assertEqual(whole(hand), ([now] + past, now, []))

    def test_changes_before_and_behind_a_group(self):
        hand = filled(1, 2, 3)
        hand.move(3)
        first = held(hand)
        with hand.group():
            hand.move(2)
            hand.move(1)
        second = held(hand)
        hand.move(3, behind=1)
        third = held(hand)
        for state in (second, first):
            hand.undo()
            self.assertEqual(held(hand), state)
        for state in (second, third):
            hand.redo()
            self.assertEqual(held(hand), state)

    def test_two_groups(self):
        hand = filled(1, 2, 3)
        states = [held(hand)]
        for row_id in (3, 2):
            with hand.group():
                hand.move(row_id)
                hand.reset(1)
            states.append(held(hand))
        hand.undo()
        self.assertEqual(held(hand), states[1])
        hand.undo()
        self.assertEqual(held(hand), states[0])

    def check_error(self, hand, error, body):
        """Check that the very error leaves the group, and that the list and its history are as before."""
        before = whole(hand)
        with self.assertRaises(type(error)) as caught:
            with hand.group():
                body()
                raise error
        self.assertIs(caught.exception, error)
        self.assertEqual(whole(hand), before)

    def test_an_error_takes_all_changes_back(self):
        for error in (BadMove((1,)), UnknownId(7), ValueError("no"), KeyError(1), ZeroDivisionError(), StopIteration()):
            hand = changed()
            self.assertEqual(len(whole(hand)[2]), 2)
            self.check_error(hand, error, lambda: None)
            self.check_error(hand, error, lambda: hand.drop(1, 2, 3, 4))
            self.check_error(hand, error, lambda: [change(hand) for change in all_changes()[4:]])
            self.check_error(HandList(1), error, lambda: None)

    def test_an_error_of_a_change(self):
        hand = changed()
        before = whole(hand)
        with self.assertRaises(UnknownId) as caught:
            with hand.group():
                hand.move(4)
                hand.rule = ()
                hand.drop(1, 9)
                hand.move(1)
        self.assertEqual(caught.exception.row_id, 9)
        self.assertEqual(whole(hand), before)

    def test_an_error_that_does_not_leave_the_body(self):
        hand = changed()
        past, now, _ = whole(hand)
        with hand.group():
            hand.move(4)
            with self.assertRaises(UnknownId):
                hand.drop(9)
            hand.move(3)
        self.assertEqual(whole(hand), ([now] + past, held(hand), []))
        self.assertEqual(hand.order[:2], [3, 4])

    def test_a_body_that_is_left_early(self):
        hand = changed()
        past, now, _ = whole(hand)

        def leave():
            with hand.group():
                hand.move(4)
                return hand.order
        order = leave()
        self.assertEqual(whole(hand), ([now] + past, held(hand), []))
        self.assertEqual(hand.order, order)
        for _ in range(3):
            with hand.group():
                hand.move(1)
                hand.move(2)
                break
        self.assertEqual(len(whole(hand)[0]), len(past) + 2)

    def test_groups_in_groups(self):
        hand = changed()
        past, now, _ = whole(hand)
        with hand.group():
            hand.move(4)
            with hand.group():
                hand.move(3)
                with hand.group():
                    hand.rule = ()
                hand.move(2)
            with hand.group():
                pass
            hand.drop(1)
        self.assertEqual(whole(hand), ([now] + past, held(hand), []))

    def test_an_error_in_the_inner_group(self):
        hand = changed()
        past, now, _ = whole(hand)
        with hand.group():
            hand.move(4)
            between = held(hand)
            with self.assertRaises(UnknownId):
                with hand.group():
                    hand.move(3)
                    hand.drop(9)
            self.assertEqual(held(hand), between)
        self.assertEqual(whole(hand), ([now] + past, between, []))

    def test_an_error_behind_the_inner_group(self):
        hand = changed()
        before = whole(hand)
        with self.assertRaises(KeyError):
            with hand.group():
                with hand.group():
                    hand.move(4)
                    hand.drop(2)
                raise KeyError(1)
        self.assertEqual(whole(hand), before)

    def test_only_changes_inside_count(self):
        hand = filled(1, 2, 3)
        group = hand.group()
        hand.move(3)
        first = whole(hand)
        with group:
            hand.move(2)
            hand.move(1)
        self.assertEqual(whole(hand), ([first[1]] + first[0], held(hand), []))

    def test_changes_behind_an_error(self):
        hand = filled(1, 2, 3)
        past, now, _ = whole(hand)
        with self.assertRaises(KeyError):
            with hand.group():
                hand.move(2)
                raise KeyError(1)
        hand.move(3)
        self.assertEqual(whole(hand), ([now] + past, held(hand), []))


class Walking(unittest.TestCase):

    def test_ids_fields_and_anchors(self):
        hand = filled((1, 9), (2, 8), (3, 7), rule=(1,), width=2)
        self.assertEqual(list(hand.walk()), [(1, (1, 9), None), (2, (2, 8), None), (3, (3, 7), None)])
        hand.move(3, 2)
        self.assertEqual(list(hand.walk()), [(3, (3, 7), 0), (2, (2, 8), 3), (1, (1, 9), None)])
        for entry in hand.walk():
            self.assertIs(type(entry), tuple)

    def test_an_empty_list(self):
        self.assertEqual(list(HandList(3).walk()), [])

    def test_one_entry_is_yielded_at_a_time(self):
        walk = filled(1, 2).walk()
        self.assertIs(iter(walk), walk)
        self.assertEqual([next(walk), next(walk)], [(1, (1,), None), (2, (2,), None)])
        with self.assertRaises(StopIteration):
            next(walk)

    def test_all_is_as_when_the_iteration_begins(self):
        for number, change in enumerate(all_changes()):
            with self.subTest(number=number):
                hand = changed()
                walk = hand.walk()
                hand.move(1)
                answer = list(hand.walk())
                found = [next(walk)]
                change(hand)
                self.assertEqual(found + list(walk), answer)

    def test_the_list_is_changed_while_it_is_gone_through(self):
        hand = filled(1, 2, 3)
        found = []
        for row_id, fields, anchor in hand.walk():
            hand.drop(row_id)
            hand.add_item(row_id + 10, 0)
            hand.rule = ()
            found.append((row_id, fields, anchor))
        self.assertEqual(found, [(1, (1,), None), (2, (2,), None), (3, (3,), None)])
        self.assertEqual(hand.order, [11, 12, 13])

    def test_undo_and_redo_while_it_is_gone_through(self):
        hand = filled(1, 2, 3)
        hand.move(3)
        answer = list(hand.walk())
        walk = hand.walk()
        found = [next(walk)]
        hand.undo()
        found.append(next(walk))
        hand.undo()
        hand.redo()
        self.assertEqual(found + list(walk), answer)

    def test_two_at_the_same_time(self):
        hand = filled(1, 2)
        pairs = list(zip(hand.walk(), hand.walk()))
        self.assertEqual(pairs, [(entry, entry) for entry in hand.walk()])

    def test_a_group_that_fails_while_it_is_gone_through(self):
        hand = filled(1, 2, 3)
        walk = hand.walk()
        with self.assertRaises(KeyError):
            with hand.group():
                hand.move(3)
                found = [next(walk)]
                raise KeyError(1)
        self.assertEqual([row_id for row_id, _, _ in found + list(walk)], [3, 1, 2])
        self.assertEqual(hand.order, [1, 2, 3])


class Comparing(unittest.TestCase):

    def check(self, first, second, answer):
        self.assertIs(first == second, answer)
        self.assertIs(second == first, answer)
        self.assertIs(first != second, not answer)
        self.assertIs(second != first, not answer)

    def test_equal_lists(self):
        self.check(HandList(2, rule=(1,)), HandList(2, rule=(1,)), True)
        first, second = filled(1, 2, 3), HandList(1, rule=(1,))
        for row_id in (3, 1, 2):
            second.add_item(row_id, row_id)
        self.check(first, second, True)
        self.check(first, first, True)
        first.move(3)
        self.check(first, second, False)
        second.move(3)
        self.check(first, second, True)

    def test_the_history_does_not_matter(self):
        hand = changed()
        self.check(hand, hand.copied(), True)
        other = hand.copied()
        hand.move(1)
        self.check(hand, other, False)
        hand.undo()
        self.check(hand, other, True)

    def test_another_width(self):
        self.check(HandList(1), HandList(2), False)
        self.check(HandList(3, rule=(1,)), HandList(4, rule=(1,)), False)

    def test_another_rule(self):
        self.check(HandList(2, rule=(1,)), HandList(2, rule=(2,)), False)
        self.check(HandList(2, rule=(1,)), HandList(2, rule=(-1,)), False)
        self.check(HandList(2, rule=(1,)), HandList(2, rule=(1, 2)), False)
        self.check(HandList(2, rule=(1,)), HandList(2), False)

    def test_other_items(self):
        hand = filled(1, 2)
        self.check(hand, filled(1), False)
        self.check(hand, filled(1, 2, 3), False)
        self.check(hand, filled(1, 3), False)
        other = filled(1)
        other.add_item(3, 2)
        self.check(hand, other, False)

    def test_other_pins(self):
        items = {1: (1,), 2: (2,)}
        first = HandList.made(1, (1,), items, {1: 2})
        second = HandList.made(1, (1,), items, {2: 0})
        self.assertEqual((first.order, second.order), ([2, 1], [2, 1]))
        self.check(first, second, False)
        self.check(first, HandList.made(1, (1,), items, {1: 2}), True)

    def test_any_other_value(self):
        for hand in (HandList(1), filled(1, 2)):
            for value in any_values() + [(), [], hand.order, hand.pins, held(hand), HandList, object()]:
                self.check(hand, value, False)

    def test_the_number_of_items(self):
        hand = HandList(1)
        for row_id in range(1, 6):
            self.assertEqual(len(hand), row_id - 1)
            hand.add_item(row_id, 0)
        hand.move(5)
        self.assertEqual(len(hand), 5)
        hand.drop(1, 2)
        self.assertEqual(len(hand), 3)
        hand.undo()
        self.assertEqual(len(hand), 5)


class MakingAndCopying(unittest.TestCase):

    def test_a_made_list(self):
        items = {1: (1, 9), 2: (2, 8), 3: (3, 7)}
        hand = HandList.made(2, (-1,), items, {1: 0, 2: 1})
        self.assertIs(type(hand), HandList)
        entries = [(1, (1, 9), 0), (2, (2, 8), 1), (3, (3, 7), None)]
        self.assertEqual(held(hand), (2, (-1,), items, {1: 0, 2: 1}, [1, 2, 3], [3], entries, 3))
        self.assertEqual(whole(hand), ([], held(hand), []))

    def test_a_made_list_without_items(self):
        self.assertEqual(HandList.made(3, (), {}, {}), HandList(3))

    def test_arguments_by_name(self):
        hand = HandList.made(pins={2: 0}, items={1: (1,), 2: (2,)}, rule=(1,), width=1)
        self.assertEqual((hand.width, hand.rule, hand.order, hand.pins), (1, (1,), [2, 1], {2: 0}))

    def test_a_made_list_can_be_changed(self):
        hand = HandList.made(1, (1,), {1: (1,), 2: (2,)}, {2: 0})
        before = held(hand)
        hand.add_item(3, 0)
        self.assertEqual((hand.order, hand.pins), ([2, 3, 1], {2: 0}))
        hand.undo()
        self.assertEqual(held(hand), before)
        with self.assertRaises(NothingToDo):
            hand.undo()

    def test_what_is_given_is_copied(self):
        items, pins = {1: (1,), 2: (2,)}, {2: 0}
        hand = HandList.made(1, (1,), items, pins)
        before = held(hand)
        items[3] = (3,)
        items[1] = (7,)
        pins.clear()
        self.assertEqual(held(hand), before)
        hand.drop(2)
        hand.set_fields(1, 5)
        self.assertEqual((items, pins), ({1: (7,), 2: (2,), 3: (3,)}, {}))

    def test_a_copy(self):
        hand = changed()
        before = whole(hand)
        copy = hand.copied()
        self.assertIs(type(copy), HandList)
        self.assertEqual(whole(copy), ([], held(hand), []))
        copy.move(1)
        copy.drop(2)
        copy.rule = ()
        self.assertEqual(whole(hand), before)
        again = hand.copied()
        hand.drop(1, 2, 3, 4)
        self.assertEqual(held(again), before[1])

    def test_a_copy_of_an_empty_list(self):
        self.assertEqual(whole(HandList(2, rule=(-2,)).copied()), whole(HandList(2, rule=(-2,))))


if __name__ == "__main__":
    unittest.main()
