"""Tests of handsorted.views."""

import unittest
from random import Random
from unittest.mock import patch

from handsorted.errors import BadMove, HandError
from handsorted.handlist import HandList
from handsorted.orders import do_move
from handsorted.views import ListView
from tests.lists import filled, held, whole
from tests.samples import any_values

TOP_ID = 10 ** 6
BIG = 10 ** 60 - 1


def hand_of(fields):
    """Return a list of the width 1 with the ids of a dict, in its sequence, without pins."""
    hand = HandList(1)
    for row_id, field in fields.items():
        hand.add_item(row_id, field)
    hand.move(*fields)
    return hand


def moved_by_words(order, visible, ids, behind):
    """Return the order of the list after a move of the view's order, as the document tells it."""
    rest = [row_id for row_id in order if row_id not in ids]
    still = [row_id for row_id in visible if row_id not in ids]
    if behind:
        at = rest.index(behind) + 1
    elif still:
        at = rest.index(still[0])
    else:
        at = min(order.index(row_id) for row_id in ids)
    return rest[:at] + list(ids) + rest[at:]


class Shown(unittest.TestCase):

    def check(self, view, hand, visible):
        hidden = [row_id for row_id in hand.order if row_id not in visible]
        self.assertEqual(view.visible(), visible)
        self.assertEqual(view.hidden(), hidden)
        self.assertEqual(len(view), len(visible))
        self.assertEqual(list(view.walk()), [(row_id, hand.fields_of(row_id)) for row_id in visible])
        self.assertEqual([type(found) for found in (view.visible(), view.hidden(), len(view))], [list, list, int])

    def test_the_example(self):
        hand = HandList(1, rule=(1,))
        hand.add_item(10, 5)
        hand.add_item(20, 7)
        hand.add_item(30, 9)
        view = ListView(hand, 1, 6, 9)
        self.check(view, hand, [20, 30])
        self.assertIsNone(view.move(30))
        self.assertEqual(hand.order, [10, 30, 20])
        self.check(view, hand, [30, 20])

    def test_both_bounds_are_included(self):
        hand = filled(4, 5, 6, 7, 8)
        self.check(ListView(hand, 1, 5, 7), hand, [2, 3, 4])
        self.check(ListView(hand, 1, 6, 6), hand, [3])
        self.check(ListView(hand, 1, 4, 8), hand, [1, 2, 3, 4, 5])
        self.check(ListView(hand, 1, 7, 5), hand, [])
        self.check(ListView(hand, 1, -BIG, BIG), hand, [1, 2, 3, 4, 5])
        self.check(ListView(hand, 1, 9, BIG), hand, [])
        self.check(ListView(hand, 1, -BIG, 4), hand, [1])

    def test_every_column(self):
        hand = filled((1, 9, 5, 5), (2, 8, 5, 6), (3, 7, 5, 7), rule=(), width=4)
        self.check(ListView(hand, 1, 2, 3), hand, [2, 3])
        self.check(ListView(hand, 2, 8, 9), hand, [1, 2])
        self.check(ListView(hand, 3, 5, 5), hand, [1, 2, 3])
        self.check(ListView(hand, 4, 6, 6), hand, [2])

    def test_negative_fields(self):
        hand = filled(-10 ** 9, -1, 0, 1, 10 ** 9)
        self.check(ListView(hand, 1, -1, 0), hand, [2, 3])
        self.check(ListView(hand, 1, -10 ** 9, -10 ** 9), hand, [1])
        self.check(ListView(hand, 1, 1, 10 ** 9), hand, [4, 5])

    def test_a_list_without_items(self):
        hand = HandList(2)
        self.check(ListView(hand, 2, -5, 5), hand, [])

    def test_it_shows_the_order_of_the_list(self):
        hand = filled(1, 2, 3, 4)
        hand.move(4, 2)
        self.check(ListView(hand, 1, 2, 4), hand, [4, 2, 3])

    def test_it_always_shows_the_list_as_it_is(self):
        hand = filled(1, 2, 3, 4)
        view = ListView(hand, 1, 2, 3)
        self.check(view, hand, [2, 3])
        hand.move(3)
        self.check(view, hand, [3, 2])
        hand.set_fields(4, 2)
        self.check(view, hand, [3, 2, 4])
        hand.set_fields(3, 9)
        self.check(view, hand, [2, 4])
        hand.drop(2)
        self.check(view, hand, [4])
        hand.add_item(9, 3)
        self.check(view, hand, [4, 9])
        hand.rule = (-1,)
        self.check(view, hand, [9, 4])
        for visible in ([4, 9], [4], [2, 4], [3, 2, 4], [3, 2], [2, 3]):
            hand.undo()
            self.check(view, hand, visible)
        for visible in ([3, 2], [3, 2, 4], [2, 4], [4], [4, 9], [9, 4]):
            hand.redo()
            self.check(view, hand, visible)

    def test_what_is_returned_is_new(self):
        hand = filled(1, 2, 3)
        view = ListView(hand, 1, 2, 3)
        view.visible().clear()
        view.hidden().append(9)
        self.check(view, hand, [2, 3])

    def test_walking(self):
        hand = filled(1, 2, 3, 4)
        view = ListView(hand, 1, 2, 4)
        walk = view.walk()
        hand.move(4)
        self.assertEqual(next(walk), (4, (4,)))
        hand.drop(2)
        hand.set_fields(3, 9)
        self.assertEqual(list(walk), [(2, (2,)), (3, (3,))])
        self.check(view, hand, [4])
        self.assertIs(type(next(view.walk())), tuple)

    def test_looking_changes_nothing(self):
        hand = filled(1, 2, 3)
        hand.move(3)
        hand.undo()
        before = whole(hand)
        view = ListView(hand, 1, 2, 3)
        self.check(view, hand, [2, 3])
        self.check(view.narrowed(1, 3, 3), hand, [3])
        self.assertEqual(whole(hand), before)

    def test_by_name(self):
        hand = filled((1, 1), (2, 2), width=2)
        view = ListView(hand=hand, column=2, low=1, high=1)
        self.check(view, hand, [1])
        self.check(view.narrowed(column=1, low=2, high=2), hand, [])
        ListView(hand, 1, 2, 2).move(2, behind=0)
        self.assertEqual(hand.order, [1, 2])


class Length(unittest.TestCase):
    """len(view) follows the list behind every change, also of a view that was narrowed."""

    def setUp(self):
        self.hand = filled((1, 9), (2, 8), (3, 7), (4, 6), (5, 5), rule=(1,), width=2)
        self.view = ListView(self.hand, 1, 2, 5)
        self.narrow = self.view.narrowed(2, 6, 7)
        self.check(4, 2)

    def check(self, shown, narrow):
        self.assertEqual((len(self.view), len(self.narrow)), (shown, narrow))
        self.assertEqual((len(self.view.visible()), len(self.narrow.visible())), (shown, narrow))
        self.assertEqual((type(len(self.view)), type(len(self.narrow))), (int, int))

    def test_items(self):
        self.hand.add_item(6, 5, 7)
        self.check(5, 3)
        self.hand.add_item(7, 2, 9)
        self.check(6, 3)
        self.hand.add_item(8, 9, 7)
        self.check(6, 3)
        self.hand.drop(6, 1)
        self.check(5, 2)
        self.hand.drop(3, 4)
        self.check(3, 0)
        self.hand.drop(2, 5, 7, 8)
        self.check(0, 0)
        for lengths in ((3, 0), (5, 2), (6, 3), (6, 3), (5, 3), (4, 2)):
            self.hand.undo()
            self.check(*lengths)
        self.hand.redo()
        self.check(5, 3)

    def test_fields(self):
        self.hand.set_fields(1, 2, 6)
        self.check(5, 3)
        self.hand.set_fields(3, 3, 8)
        self.check(5, 2)
        self.hand.set_fields(4, 6, 6)
        self.check(4, 1)
        for lengths in ((5, 2), (5, 3), (4, 2)):
            self.hand.undo()
            self.check(*lengths)

    def test_rule_moves_and_pins(self):
        for change in (
            lambda: self.hand.move(4, 1),
            lambda: self.hand.set_rule((-2,)),
            lambda: self.view.move(5),
            lambda: self.narrow.move(3),
            lambda: self.hand.set_rule(()),
            lambda: self.hand.reset(*self.hand.order),
        ):
            change()
            self.check(4, 2)

    def test_a_group(self):
        with self.hand.group():
            self.hand.drop(3)
            self.check(3, 1)
            self.hand.set_fields(5, 5, 6)
            self.check(3, 2)
        self.check(3, 2)
        self.hand.undo()
        self.check(4, 2)

    def test_nothing_that_yields_is_asked(self):
        self.hand.move(4)
        with patch.object(HandList, "walk", side_effect=AssertionError("walked")):
            self.check(4, 2)

    def test_it_changes_nothing(self):
        self.hand.move(4)
        self.hand.move(3)
        self.hand.undo()
        before = whole(self.hand)
        self.check(4, 2)
        self.assertEqual(whole(self.hand), before)


class Moves(unittest.TestCase):

    def check(self, order, shown, ids, behind, wanted):
        """Check a move of a view that shows some ids of an order."""
        hand = hand_of({row_id: int(row_id in shown) for row_id in order})
        self.assertEqual(hand.order, order)
        view = ListView(hand, 1, 1, 1)
        visible, hidden, (past, now, _) = view.visible(), view.hidden(), whole(hand)
        self.assertIsNone(view.move(*ids, behind=behind))
        self.assertEqual(hand.order, wanted)
        self.assertEqual(wanted, moved_by_words(order, visible, ids, behind))
        self.assertEqual(view.visible(), do_move(visible, (tuple(ids), behind)))
        self.assertEqual(view.hidden(), hidden)
        self.assertEqual(whole(hand), ([now] + past, held(hand), []))

    def test_behind_a_visible_id(self):
        self.check([1, 2, 3, 4, 5], [1, 3, 5], [1], 3, [2, 3, 1, 4, 5])
        self.check([1, 2, 3, 4, 5], [1, 3, 5], [5], 1, [1, 5, 2, 3, 4])
        self.check([1, 2, 3, 4, 5], [1, 3, 5], [5, 1], 3, [2, 3, 5, 1, 4])
        self.check([1, 2, 3, 4, 5], [1, 3, 5], [1, 3], 5, [2, 4, 5, 1, 3])
        self.check([1, 2, 3], [1, 3], [3], 1, [1, 3, 2])

    def test_to_the_front_with_hidden_items_in_front(self):
        self.check([1, 2, 3], [2, 3], [3], 0, [1, 3, 2])
        self.check([1, 2, 3, 4], [3, 4], [4], 0, [1, 2, 4, 3])
        self.check([1, 2, 3, 4], [2, 3, 4], [4, 3], 0, [1, 4, 3, 2])

    def test_to_the_front_with_hidden_items_between(self):
        self.check([1, 2, 3], [1, 3], [3], 0, [3, 1, 2])
        self.check([1, 2, 3], [1, 3], [1], 0, [2, 1, 3])
        self.check([1, 2, 3, 4], [1, 4], [1], 0, [2, 3, 1, 4])
        self.check([1, 2, 3, 4, 5], [2, 4, 5], [2], 0, [1, 3, 2, 4, 5])
        self.check([1, 2, 3, 4, 5], [2, 4, 5], [5, 2], 0, [1, 3, 5, 2, 4])
        self.check([1, 2, 3, 4, 5], [2, 4, 5], [2, 4], 0, [1, 3, 2, 4, 5])

    def test_to_the_front_with_hidden_items_behind(self):
        self.check([1, 2, 3], [1, 2], [2], 0, [2, 1, 3])
        self.check([1, 2, 3], [1, 2], [1], 0, [1, 2, 3])

    def test_to_the_front_with_moved_ids_directly_before(self):
        self.check([1, 2, 3, 4], [2, 3, 4], [3, 2], 0, [1, 3, 2, 4])
        self.check([1, 2, 3, 4], [1, 2, 3, 4], [2, 1], 0, [2, 1, 3, 4])

    def test_no_visible_id_that_is_not_moved(self):
        self.check([1, 2, 3], [2], [2], 0, [1, 2, 3])
        self.check([1, 2, 3, 4, 5], [2, 4], [2, 4], 0, [1, 2, 4, 3, 5])
        self.check([1, 2, 3, 4, 5], [2, 4], [4, 2], 0, [1, 4, 2, 3, 5])
        self.check([1, 2, 3], [1, 3], [3, 1], 0, [3, 1, 2])
        self.check([1, 2, 3, 4], [3, 4], [4, 3], 0, [1, 2, 4, 3])
        self.check([1, 2], [1, 2], [2, 1], 0, [2, 1])
        self.check([7], [7], [7], 0, [7])

    def test_all_orders_and_moves_of_a_few(self):
        for seed in range(1500):
            random = Random(seed)
            order = random.sample(range(1, 20), random.randrange(1, 8))
            shown = random.sample(order, random.randrange(1, len(order) + 1))
            ids = random.sample(shown, random.randrange(1, len(shown) + 1))
            behind = random.choice([0, 0] + [row_id for row_id in shown if row_id not in ids])
            visible = [row_id for row_id in order if row_id in shown]
            self.check(order, shown, ids, behind, moved_by_words(order, visible, ids, behind))

    def test_the_pins_are_those_of_a_move_of_the_list(self):
        hand = filled(1, 2, 3, 4, 5)
        other = hand.copied()
        ListView(hand, 1, 2, 5).move(5, 4)
        other.move(5, 4, behind=1)
        self.assertEqual(hand, other)
        self.assertEqual(hand.pins, {5: 1, 4: 5})
        ListView(hand, 1, 2, 5).move(5, behind=3)
        other.move(5, behind=3)
        self.assertEqual(hand, other)

    def test_a_move_is_undone_and_redone_with_the_list(self):
        hand = filled(1, 2, 3)
        view = ListView(hand, 1, 2, 3)
        view.move(3)
        self.assertEqual((hand.order, view.visible()), ([1, 3, 2], [3, 2]))
        hand.undo()
        self.assertEqual((hand.order, view.visible()), ([1, 2, 3], [2, 3]))
        hand.redo()
        self.assertEqual((hand.order, view.visible()), ([1, 3, 2], [3, 2]))

    def test_views_of_one_list(self):
        hand = filled(1, 2, 3, 4)
        low, high = ListView(hand, 1, 1, 2), ListView(hand, 1, 3, 4)
        low.move(2)
        high.move(4)
        self.assertEqual((hand.order, low.visible(), high.visible()), ([2, 1, 4, 3], [2, 1], [4, 3]))


class Errors(unittest.TestCase):

    def setUp(self):
        self.hand = filled(1, 2, 3, 4, 5)
        self.hand.move(4)
        self.hand.move(3)
        self.hand.undo()
        self.view = ListView(self.hand, 1, 2, 4)
        self.before = whole(self.hand)
        self.assertEqual(self.view.visible(), [4, 2, 3])

    def check(self, *ids, **more):
        with self.subTest(ids=ids, **more):
            with self.assertRaises(HandError) as caught:
                self.view.move(*ids, **more)
            self.assertIs(type(caught.exception), BadMove)
            value = caught.exception.value
            self.assertEqual(value, (ids, more.get("behind", 0)))
            self.assertEqual((type(value), type(value[0])), (tuple, tuple))
            for kept, given in zip(value[0], ids):
                self.assertIs(kept, given)
            if "behind" in more:
                self.assertIs(value[1], more["behind"])
            self.assertEqual(whole(self.hand), self.before)

    def test_no_ids(self):
        self.check()
        self.check(behind=0)
        self.check(behind=2)
        self.check(behind=1)

    def test_hidden_ids(self):
        self.check(1)
        self.check(5, behind=2)
        self.check(2, 1)
        self.check(1, 2, behind=3)
        self.check(2, behind=1)
        self.check(2, behind=5)

    def test_unknown_ids(self):
        for row_id in (9, 0, -1, TOP_ID, TOP_ID + 1, BIG, -BIG):
            self.check(row_id)
            self.check(2, row_id)
            self.check(row_id, behind=2)
            if row_id:
                self.check(2, behind=row_id)

    def test_repeated_ids(self):
        self.check(2, 2)
        self.check(2, 3, 2, behind=4)
        self.check(2, behind=2)
        self.check(3, 2, behind=2)

    def test_other_values(self):
        for value in any_values():
            if isinstance(value, bool) or value not in (2, 3, 4):
                self.check(value)
                self.check(2, value)
                self.check(value, behind=2)
                if isinstance(value, bool) or value != 0:
                    self.check(2, behind=value)

    def test_an_empty_view(self):
        self.view = ListView(self.hand, 1, 9, 9)
        self.check()
        self.check(2)

    def test_narrowed_views(self):
        self.view = self.view.narrowed(1, 2, 3)
        self.check(4)
        self.check(2, behind=4)
        self.check(1)
        self.check(5)


class Narrowed(unittest.TestCase):

    def setUp(self):
        self.hand = filled((1, 9), (2, 8), (3, 7), (4, 6), (5, 5), rule=(1,), width=2)
        self.view = ListView(self.hand, 1, 2, 5)

    def test_another_column(self):
        narrow = self.view.narrowed(2, 6, 7)
        self.assertIs(type(narrow), ListView)
        self.assertEqual((narrow.visible(), narrow.hidden(), len(narrow)), ([3, 4], [1, 2, 5], 2))
        self.assertEqual(list(narrow.walk()), [(3, (3, 7)), (4, (4, 6))])

    def test_the_same_column(self):
        self.assertEqual(self.view.narrowed(1, 1, 3).visible(), [2, 3])
        self.assertEqual(self.view.narrowed(1, 0, 9).visible(), [2, 3, 4, 5])
        self.assertEqual(self.view.narrowed(1, 1, 1).visible(), [])

    def test_narrowed_twice(self):
        narrow = self.view.narrowed(2, 6, 9).narrowed(1, 3, 9)
        self.assertEqual((narrow.visible(), narrow.hidden()), ([3, 4], [1, 2, 5]))
        self.assertEqual(narrow.narrowed(2, 7, 7).visible(), [3])

    def test_the_first_view_stays_as_it_is(self):
        self.view.narrowed(2, 6, 7)
        self.view.narrowed(1, 2, 2).narrowed(2, 0, 0)
        self.assertEqual(self.view.visible(), [2, 3, 4, 5])

    def test_it_shows_the_list_as_it_is(self):
        narrow = self.view.narrowed(2, 6, 7)
        self.hand.move(4)
        self.assertEqual(narrow.visible(), [4, 3])
        self.hand.set_fields(1, 2, 6)
        self.assertEqual(narrow.visible(), [4, 1, 3])
        self.hand.set_fields(4, 9, 6)
        self.assertEqual(narrow.visible(), [1, 3])
        self.hand.undo()
        self.hand.undo()
        self.hand.undo()
        self.assertEqual(narrow.visible(), [3, 4])

    def test_moving(self):
        narrow = self.view.narrowed(2, 6, 7)
        narrow.move(4)
        self.assertEqual(self.hand.order, [1, 2, 4, 3, 5])
        self.assertEqual(self.view.visible(), [2, 4, 3, 5])

    def test_definitions(self):
        self.assertEqual(ListView.__module__, "handsorted.views")
        for name in ("visible", "hidden", "__len__", "walk", "move", "narrowed"):
            self.assertIn(name, vars(ListView))


if __name__ == "__main__":
    unittest.main()
