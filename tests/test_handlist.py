"""Tests of handsorted.handlist: what a list holds, its changes and its errors."""

import unittest
from random import Random

from handsorted import handlist
from handsorted.covers import is_least, level_cover
from handsorted.errors import BadItem, BadMove, BadRule, HandError, TakenId, TooMany, UnknownId
from handsorted.handlist import HandList
from handsorted.items import rule_order
from handsorted.pins import is_pins, lay
from tests.lists import filled, held, items_of, whole
from tests.samples import any_values
from tests.words import Model

TOP_ID = 10 ** 6


def wrong_rules():
    """Return new values that are no rules for the width 2."""
    return [(0,), (3,), (-3,), (1, 1), (1, -1), (2, 1, 2), (1, 2, 1), (True,), (1, True), (None,), ("1",), ((1,),),
            [], [1], {}, {1: 1}, 1, None, "", "1", False, (10 ** 59,), ([1],)]


class NewLists(unittest.TestCase):

    def test_a_list_without_items(self):
        for width in (1, 2, 3, 4):
            hand = HandList(width)
            self.assertEqual(held(hand), (width, (), {}, {}, [], [], [], 0))
            self.assertEqual(whole(hand), ([], held(hand), []))

    def test_every_rule_for_the_width(self):
        for rule in ((), (1,), (-2,), (2, 1), (-1, 2)):
            hand = HandList(2, rule=rule)
            self.assertEqual(hand.rule, rule)
            self.assertIs(type(hand.rule), tuple)
        self.assertEqual(HandList(4, rule=(4, -3, 2, -1)).rule, (4, -3, 2, -1))

    def test_wrong_rules(self):
        for rule in wrong_rules() + any_values():
            with self.subTest(rule=rule):
                with self.assertRaises(BadRule) as caught:
                    HandList(2, rule=rule)
                self.assertIs(type(caught.exception), BadRule)
                self.assertIs(caught.exception.value, rule)

    def test_a_rule_for_another_width(self):
        for width in (1, 2, 3):
            with self.assertRaises(BadRule) as caught:
                HandList(width, rule=(width + 1,))
            self.assertEqual(caught.exception.value, (width + 1,))
            self.assertEqual(HandList(width + 1, rule=(width + 1,)).rule, (width + 1,))

    def test_arguments_by_name(self):
        self.assertEqual(HandList(rule=(-1,), width=1).rule, (-1,))

    def test_the_limit(self):
        self.assertEqual(HandList.LIMIT, 300)
        self.assertEqual(HandList(1).LIMIT, 300)

    def test_lists_share_nothing(self):
        first, second = HandList(1), HandList(1)
        first.add_item(1, 5)
        self.assertEqual((len(first), len(second)), (1, 0))


class Examples(unittest.TestCase):

    def setUp(self):
        self.hand = HandList(1, rule=(1,))
        self.hand.add_item(10, 5)
        self.hand.add_item(20, 7)
        self.hand.move(20)

    def test_a_move(self):
        self.assertEqual([self.hand.order, self.hand.pins], [[20, 10], {20: 0}])

    def test_another_item(self):
        self.hand.add_item(30, 6)
        self.assertEqual(self.hand.order, [20, 10, 30])

    def test_another_rule(self):
        self.hand.set_rule((-1,))
        self.assertEqual(self.hand.pins, {})


class Changes(unittest.TestCase):

    def check(self, hand, order, pins):
        self.assertEqual((hand.order, hand.pins), (order, pins))
        self.assertEqual(hand.straight, [row_id for row_id in order if row_id not in pins])

    def test_adding_items(self):
        hand = HandList(2, rule=(-2, 1))
        for row_id, *fields in ((5, 1, 1), (3, 2, 1), (TOP_ID, 7, -10 ** 9), (4, 7, 10 ** 9), (1, 1, 1)):
            hand.add_item(row_id, *fields)
        self.check(hand, [4, 1, 5, 3, TOP_ID], {})
        self.assertEqual(items_of(hand), {5: (1, 1), 3: (2, 1), TOP_ID: (7, -10 ** 9), 4: (7, 10 ** 9), 1: (1, 1)})

    def test_adding_changes_no_pin(self):
        hand = filled(1, 2, 3, 4)
        hand.move(4, 2, behind=0)
        self.check(hand, [4, 2, 1, 3], {4: 0, 2: 4})
        hand.add_item(9, 2)
        self.check(hand, [4, 2, 1, 9, 3], {4: 0, 2: 4})
        hand.add_item(8, -1)
        self.check(hand, [4, 2, 8, 1, 9, 3], {4: 0, 2: 4})

    def test_an_item_that_is_added_has_no_pin(self):
        hand = filled(5, 6)
        hand.move(2)
        hand.add_item(3, 7)
        self.check(hand, [2, 1, 3], {2: 0})
        hand.add_item(4, 4)
        self.check(hand, [2, 4, 1, 3], {2: 0})

    def test_dropping_items(self):
        hand = filled(1, 2, 3, 4, 5)
        hand.move(5, 3)
        self.check(hand, [5, 3, 1, 2, 4], {5: 0, 3: 5})
        hand.drop(2)
        self.check(hand, [5, 3, 1, 4], {5: 0, 3: 5})
        self.assertEqual(items_of(hand), {1: (1,), 3: (3,), 4: (4,), 5: (5,)})
        hand.drop(5)
        self.check(hand, [3, 1, 4], {3: 0})
        hand.drop(4, 1)
        self.check(hand, [3], {})
        hand.drop(3)
        self.check(hand, [], {})

    def test_dropping_an_anchor_keeps_the_order(self):
        hand = filled(1, 2, 3, 4)
        hand.move(1, behind=3)
        self.check(hand, [2, 3, 1, 4], {1: 3})
        hand.drop(3)
        self.check(hand, [2, 1, 4], {1: 2})

    def test_dropping_favours_the_ids_without_a_pin(self):
        hand = filled(1, 2, 3)
        hand.move(1, behind=3)
        self.check(hand, [2, 3, 1], {1: 3})
        hand.drop(3)
        self.check(hand, [2, 1], {1: 2})
        hand = filled(1, 2, 3)
        hand.move(3)
        self.check(hand, [3, 1, 2], {3: 0})
        hand.drop(1)
        self.check(hand, [3, 2], {3: 0})

    def test_dropping_nothing(self):
        hand = filled(1, 2)
        hand.move(2)
        hand.drop()
        self.check(hand, [2, 1], {2: 0})

    def test_changing_fields(self):
        hand = filled(1, 2, 3, 4)
        hand.move(4, behind=1)
        self.check(hand, [1, 4, 2, 3], {4: 1})
        hand.set_fields(1, 9)
        self.check(hand, [2, 3, 1, 4], {4: 1})
        self.assertEqual(hand.fields_of(1), (9,))
        hand.set_fields(1, 3)
        self.check(hand, [2, 1, 4, 3], {4: 1})
        hand.set_fields(3, 5)
        self.check(hand, [2, 1, 4, 3], {})
        self.assertEqual(items_of(hand), {1: (3,), 2: (2,), 3: (5,), 4: (4,)})

    def test_fields_of_a_pinned_id(self):
        hand = filled(1, 2, 3)
        hand.move(3)
        hand.set_fields(3, 2)
        self.check(hand, [3, 1, 2], {3: 0})
        hand.set_fields(3, 0)
        self.check(hand, [3, 1, 2], {})

    def test_changing_the_rule(self):
        hand = filled((1, 9), (2, 8), (3, 7), rule=(1,), width=2)
        hand.move(3, behind=1)
        self.check(hand, [1, 3, 2], {3: 1})
        hand.set_rule((2,))
        self.check(hand, [2, 1, 3], {3: 1})
        self.assertEqual(hand.rule, (2,))
        hand.rule = (-2,)
        self.check(hand, [1, 3, 2], {3: 1})
        self.assertEqual(hand.rule, (-2,))
        hand.set_rule(rule=())
        self.check(hand, [1, 3, 2], {3: 1})

    def test_a_pin_that_the_rule_makes_needless_is_gone(self):
        hand = filled(5, 7)
        hand.move(2)
        hand.set_rule((-1,))
        self.check(hand, [2, 1], {})
        hand.set_rule((1,))
        self.check(hand, [1, 2], {})

    def test_moving(self):
        hand = filled(1, 2, 3, 4)
        hand.move(3)
        self.check(hand, [3, 1, 2, 4], {3: 0})
        hand.move(4, behind=1)
        self.check(hand, [3, 1, 4, 2], {3: 0, 4: 1})
        hand.move(3, behind=2)
        self.check(hand, [1, 4, 2, 3], {4: 1})
        hand.move(4, behind=3)
        self.check(hand, [1, 2, 3, 4], {})

    def test_moving_several(self):
        hand = filled(1, 2, 3, 4, 5)
        hand.move(5, 1, behind=3)
        self.check(hand, [2, 3, 5, 1, 4], {5: 3, 1: 5})
        hand.move(2, 3)
        self.check(hand, [2, 3, 5, 1, 4], {5: 3, 1: 5})

    def test_moving_favours_the_ids_without_a_pin_that_are_not_moved(self):
        hand = filled(1, 2)
        hand.move(1, behind=2)
        self.check(hand, [2, 1], {1: 2})
        hand = filled(1, 2)
        hand.move(2)
        self.check(hand, [2, 1], {2: 0})
        hand = filled(1, 2, 3, 4)
        hand.move(1, 2, behind=4)
        self.check(hand, [3, 4, 1, 2], {1: 4, 2: 1})
        hand = filled(1, 2, 3, 4)
        hand.move(3, 4)
        self.check(hand, [3, 4, 1, 2], {3: 0, 4: 3})

    def test_moving_all_ids_favours_none(self):
        hand = filled(1, 2, 3, 4)
        hand.move(3, 4, 1, 2)
        self.check(hand, [3, 4, 1, 2], {1: 4, 2: 1})

    def test_moving_where_it_stands(self):
        hand = filled(1, 2, 3)
        hand.move(2, behind=1)
        self.check(hand, [1, 2, 3], {})

    def test_a_pinned_id_that_others_leave_behind(self):
        hand = filled(1, 2, 3)
        hand.move(3, behind=1)
        self.check(hand, [1, 3, 2], {3: 1})
        hand.move(2, behind=1)
        self.check(hand, [1, 2, 3], {})

    def test_resetting(self):
        hand = filled(1, 2, 3, 4)
        hand.move(4, 3)
        self.check(hand, [4, 3, 1, 2], {4: 0, 3: 4})
        hand.reset(3)
        self.check(hand, [4, 1, 2, 3], {4: 0})
        hand.undo()
        hand.reset(4)
        self.check(hand, [1, 2, 4, 3], {3: 4})
        hand.undo()
        hand.reset(3, 4)
        self.check(hand, [1, 2, 3, 4], {})

    def test_resetting_favours_the_ids_without_a_pin(self):
        hand = filled(1, 2, 3)
        hand.move(1, behind=2)
        self.check(hand, [2, 1, 3], {1: 2})
        hand.reset(3)
        self.check(hand, [2, 1, 3], {1: 2})
        hand.reset()
        self.check(hand, [2, 1, 3], {1: 2})
        hand.reset(1, 2, 3)
        self.check(hand, [1, 2, 3], {})

    def test_by_name_where_there_is_one(self):
        hand = filled(1, 2)
        hand.move(2, behind=0)
        hand.set_rule(rule=(-1,))
        self.check(hand, [2, 1], {})
        self.assertEqual(hand.fields_of(row_id=2), (2,))

    def test_changes_return_nothing(self):
        hand = filled(1, 2)
        for answer in (hand.add_item(3, 3), hand.set_fields(3, 4), hand.set_rule(()), hand.move(2), hand.reset(2),
                       hand.drop(3), hand.undo(), hand.redo()):
            self.assertIsNone(answer)


class AgainstTheModel(unittest.TestCase):
    """Many changes, one after the other, held against the words of the document."""

    def check(self, hand, model):
        order = model.order()
        self.assertEqual((hand.rule, items_of(hand), hand.pins), model.state())
        self.assertEqual(hand.order, order)
        self.assertEqual(hand.straight, [row_id for row_id in order if row_id not in model.pins])
        self.assertEqual(list(hand.walk()), [(x, model.items[x], model.pins.get(x)) for x in order])
        self.assertEqual(len(hand), len(order))
        base = rule_order(hand.rule, items_of(hand))
        self.assertTrue(is_pins(order, hand.pins))
        self.assertTrue(is_least(base, order, hand.pins, level_cover(base, order)))

    def change(self, random, hand, model):
        """Do one change to both; return what it was."""
        fields = (random.randrange(3), random.randrange(3))
        order = model.order()
        some = random.sample(order, random.randrange(min(len(order), 3) + 1))
        kind = random.choice(("put", "put", "rule", "drop", "move", "move", "move", "reset", "undo", "redo", "redo"))
        if kind == "put":
            row_id = random.randrange(1, 8)
            (hand.set_fields if row_id in model.items else hand.add_item)(row_id, *fields)
            model.put_fields(row_id, fields)
        elif kind == "rule":
            rule = random.choice(((), (1,), (-1,), (2, 1), (-2, 1), (1, -2)))
            hand.set_rule(rule)
            model.put_rule(rule)
        elif kind == "drop" and len(some) < 2:
            hand.drop(*some)
            model.drop(some)
        elif kind == "move" and some:
            behind = random.choice([0] + [row_id for row_id in order if row_id not in some])
            hand.move(*some, behind=behind)
            model.move(some, behind)
        elif kind == "reset":
            hand.reset(*some)
            model.reset(some)
        elif kind == "undo" and model.past:
            hand.undo()
            model.undo()
        elif kind == "redo" and model.future:
            hand.redo()
            model.redo()

    def test_many_changes(self):
        for seed in range(60):
            random = Random(seed)
            hand, model = HandList(2, rule=(1,)), Model((1,))
            for _ in range(40):
                self.change(random, hand, model)
                self.check(hand, model)

    def test_what_each_kind_of_change_does_to_pins(self):
        for seed in range(60):
            random = Random(seed)
            hand = filled(*[(random.randrange(9), random.randrange(9)) for _ in range(10)], rule=(1,), width=2)
            for _ in range(5):
                ids = random.sample(hand.order, 3)
                before = hand.pins
                hand.move(*ids[:2], behind=ids[2])
                self.assertLessEqual(len(hand.pins), len(before) + 2)
            pins = hand.pins
            hand.add_item(11, random.randrange(9), 0)
            self.assertEqual(hand.pins, pins)
            for row_id in (3, 5):
                hand.set_fields(row_id, random.randrange(9), 0)
                self.assertTrue(hand.pins == pins or len(hand.pins) < len(pins))
                pins = hand.pins
            for rule in ((2, -1), (-1,)):
                hand.rule = rule
                self.assertTrue(hand.pins == pins or len(hand.pins) < len(pins))
                pins = hand.pins
            if pins:
                hand.drop(min(pins))
                self.assertEqual(set(hand.pins), set(pins) - {min(pins)})

    def test_the_pins_are_always_the_least_in_full_lists(self):
        random = Random(1)
        hand = HandList(4, rule=(2, -1))
        for row_id in range(1, 301):
            hand.add_item(row_id, *[random.randrange(10) for _ in range(4)])
        for _ in range(40):
            ids = random.sample(hand.order, 6)
            hand.move(*ids[:5], behind=random.choice((0, ids[5])))
            base = rule_order(hand.rule, items_of(hand))
            self.assertEqual(lay(base, hand.pins), hand.order)
            self.assertTrue(is_least(base, hand.order, hand.pins, level_cover(base, hand.order)))


class Errors(unittest.TestCase):

    def setUp(self):
        self.hand = filled((5, 1), (4, 2), (3, 3), (2, 4), rule=(-2,), width=2)
        self.hand.move(3, behind=1)
        self.hand.move(2)
        self.hand.undo()

    def check(self, error, value, call, *args, name="value", very=False, **more):
        """Check the error, the value that it keeps, and that the call has changed nothing."""
        before = whole(self.hand)
        with self.subTest(error=error, args=args, **more):
            with self.assertRaises(HandError) as caught:
                call(*args, **more)
            self.assertIs(type(caught.exception), error)
            kept = getattr(caught.exception, name)
            if very:
                self.assertIs(kept, value)
            self.assertEqual(kept, value)
            self.assertIs(type(kept), type(value))
            self.assertEqual(whole(self.hand), before)

    def check_parts(self, error, value, call, *args, **more):
        """Check also that the parts of the tuple are the very values that were passed."""
        self.check(error, value, call, *args, **more)
        with self.assertRaises(error) as caught:
            call(*args, **more)
        for kept, given in zip(caught.exception.value, value):
            pairs = zip(kept, given) if isinstance(given, tuple) else [(kept, given)]
            for one, other in pairs:
                self.assertIs(one, other)

    def test_what_is_no_item(self):
        for call in (self.hand.add_item, self.hand.set_fields):
            for fields in ((), (1,), (1, 2, 3), (1, 2, 3, 4), (1, None), (True, 1), (1, "2"), ((1, 2),), ([1], 2),
                           (1, 10 ** 9 + 1), (-10 ** 9 - 1, 0)):
                self.check_parts(BadItem, (9, fields), call, 9, *fields)
                self.check_parts(BadItem, (1, fields), call, 1, *fields)
            for row_id in (0, -1, TOP_ID + 1, True, None, "1", (1,), [1], {}):
                self.check_parts(BadItem, (row_id, (1, 2)), call, row_id, 1, 2)
            for value in any_values():
                if not (isinstance(value, int) and 1 <= value <= TOP_ID) or isinstance(value, bool):
                    self.check_parts(BadItem, (value, (1, 2)), call, value, 1, 2)
                if not (isinstance(value, int) and abs(value) <= 10 ** 9) or isinstance(value, bool):
                    self.check_parts(BadItem, (9, (1, value)), call, 9, 1, value)
                    self.check_parts(BadItem, (1, (value, 2)), call, 1, value, 2)
                self.check_parts(BadItem, (9, (value,)), call, 9, value)

    def test_a_taken_id(self):
        for row_id in (1, 4):
            self.check(TakenId, row_id, self.hand.add_item, row_id, 1, 2, name="row_id")

    def test_an_unknown_id(self):
        for row_id in (5, 9, TOP_ID):
            self.check(UnknownId, row_id, self.hand.set_fields, row_id, 1, 2, name="row_id")
        for row_id in (5, 0, -1, TOP_ID, TOP_ID + 1, 10 ** 59, -(10 ** 59)):
            self.check(UnknownId, row_id, self.hand.fields_of, row_id, name="row_id")

    def test_what_are_no_different_ids(self):
        for call in (self.hand.drop, self.hand.reset):
            for ids in ((1, 1), (9, 9), (1, 2, 1), (0,), (1, 0), (-1,), (TOP_ID + 1,), (True,), (1, True), (None,),
                        ("1",), ((1,),), ([1],), ([1, 2],), ({},), (1, [2]), (9, 0), (9, None), (10 ** 59,)):
                self.check_parts(BadMove, ids, call, *ids)
            for value in any_values():
                if not (isinstance(value, int) and 1 <= value <= TOP_ID) or isinstance(value, bool):
                    self.check_parts(BadMove, (value,), call, value)
                    self.check_parts(BadMove, (3, value), call, 3, value)
                    self.check_parts(BadMove, (9, value), call, 9, value)

    def test_the_first_unknown_id(self):
        for call in (self.hand.drop, self.hand.reset):
            for ids, first in (((9,), 9), ((1, 9), 9), ((9, 1), 9), ((9, 8), 9), ((8, 9), 8), ((4, 7, 2, 6), 7),
                               ((TOP_ID,), TOP_ID)):
                self.check(UnknownId, first, call, *ids, name="row_id")

    def test_what_is_no_rule(self):
        def assign(rule):
            self.hand.rule = rule
        for rule in wrong_rules() + any_values():
            self.check(BadRule, rule, self.hand.set_rule, rule, very=True)
            self.check(BadRule, rule, assign, rule, very=True)

    def test_what_is_no_move(self):
        for ids in ((), (1, 1), (9,), (1, 9), (0,), (True,), (None,), ("1",), ((1,),), ([1],), ({},), (1, [2]), (-1,)):
            self.check_parts(BadMove, (ids, 0), self.hand.move, *ids)
            self.check_parts(BadMove, (ids, 0), self.hand.move, *ids, behind=0)
            self.check_parts(BadMove, (ids, 2), self.hand.move, *ids, behind=2)
        for behind in (1, 9, -1, TOP_ID, True, False, None, "2", (2,), [2], {}, {2: 2}, (), 10 ** 59):
            self.check_parts(BadMove, ((1,), behind), self.hand.move, 1, behind=behind)
            self.check_parts(BadMove, ((3, 1), behind), self.hand.move, 3, 1, behind=behind)
        for value in any_values():
            if isinstance(value, bool) or value not in (0, 1):
                self.check_parts(BadMove, ((value,), 2), self.hand.move, value, behind=2)
                self.check_parts(BadMove, ((3,), value), self.hand.move, 3, behind=value)

    def test_items_before_taken_ids_before_too_many(self):
        self.check_parts(BadItem, (1, (5,)), self.hand.add_item, 1, 5)
        full = HandList(1)
        for row_id in range(1, 301):
            full.add_item(row_id, row_id)
        self.hand = full
        self.check_parts(BadItem, (301, ()), full.add_item, 301)
        self.check_parts(BadItem, (300, (True,)), full.add_item, 300, True)
        self.check(TakenId, 300, full.add_item, 300, 5, name="row_id")
        self.check(TooMany, 301, full.add_item, 301, 5, name="count")
        self.check(TooMany, 301, full.add_item, TOP_ID, 5, name="count")


class TheLimit(unittest.TestCase):

    def test_three_hundred_items_and_no_more(self):
        hand = HandList(1)
        for row_id in range(1, 301):
            hand.add_item(row_id, 0)
        self.assertEqual(len(hand), 300)
        for _ in range(2):
            with self.assertRaises(TooMany) as caught:
                hand.add_item(301, 0)
            self.assertEqual(caught.exception.count, 301)
        hand.set_fields(300, -1)
        hand.move(7)
        hand.drop(5)
        hand.add_item(301, 0)
        with self.assertRaises(TooMany):
            hand.add_item(5, 0)
        self.assertEqual(len(hand), 300)


class WhatIsReturnedIsNew(unittest.TestCase):

    def test_order_pins_and_straight(self):
        hand = filled(1, 2, 3)
        hand.move(3)
        before = whole(hand)
        hand.order.append(9)
        hand.order.clear()
        hand.pins.clear()
        hand.pins[9] = 1
        hand.straight.clear()
        self.assertEqual(whole(hand), before)
        self.assertEqual([type(hand.order), type(hand.pins), type(hand.straight)], [list, dict, list])
        self.assertEqual([type(hand.fields_of(1)), type(hand.width), type(len(hand))], [tuple, int, int])

    def test_what_was_returned_does_not_change(self):
        hand = filled(1, 2, 3)
        order, pins, straight = hand.order, hand.pins, hand.straight
        hand.move(3)
        hand.drop(1)
        self.assertEqual((order, pins, straight), ([1, 2, 3], {}, [1, 2, 3]))

    def test_only_the_rule_can_be_assigned(self):
        hand = filled(1, 2)
        for name in ("width", "order", "pins", "straight"):
            with self.assertRaises(AttributeError):
                setattr(hand, name, getattr(hand, name))


class Definitions(unittest.TestCase):

    def test_methods_are_defined_in_the_class_itself(self):
        self.assertEqual(handlist.HandList.__module__, "handsorted.handlist")
        for name in ("add_item", "drop", "set_fields", "set_rule", "move", "reset", "fields_of", "group", "undo",
                     "redo", "walk", "made", "copied", "width", "rule", "order", "pins", "straight", "LIMIT",
                     "__eq__", "__len__"):
            self.assertIn(name, vars(HandList))


if __name__ == "__main__":
    unittest.main()
