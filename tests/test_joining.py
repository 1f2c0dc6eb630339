"""Tests of handsorted.joining: merging two hand-sorted lists that come from one."""

import unittest
from random import Random

from handsorted import joining
from handsorted.covers import is_least, level_cover
from handsorted.errors import BadMove, TooMany
from handsorted.handlist import HandList
from handsorted.items import rule_order
from handsorted.joining import join_lists
from tests.lists import filled, held, items_of, whole
from tests.merge_words import joined_by_words

TOP_ID = 10 ** 6


def parts(hand):
    return (hand.rule, items_of(hand), hand.pins)


def three(*fields, width=1, rule=(1,)):
    """Return three equal lists: a start and two sides."""
    start = filled(*fields, width=width, rule=rule)
    return start, start.copied(), start.copied()


def change(random, hand):
    """Do a change to a list of the width 2."""
    order = hand.order
    some = random.sample(order, min(len(order), random.randint(1, 2)))
    kind = random.choice(("add", "drop", "fields", "rule", "move", "move", "move", "reset"))
    if kind == "add":
        row_id = random.randrange(1, 12)
        if row_id not in order and len(order) < 7:
            hand.add_item(row_id, random.randrange(3), random.randrange(3))
    elif kind == "rule":
        hand.rule = random.choice(((1,), (-1,), (2, 1)))
    elif kind == "drop" and random.random() < 0.7:
        hand.drop(*some[:1])
    elif kind == "fields" and some:
        hand.set_fields(some[0], random.randrange(3), random.randrange(3))
    elif kind == "move" and some:
        hand.move(*some, behind=random.choice([0] + [row_id for row_id in order if row_id not in some]))
    elif kind == "reset":
        hand.reset(*some)


def case(seed):
    """Return a start and two sides that have come from it by some changes."""
    random = Random(seed)
    start = HandList(2, rule=random.choice(((), (1,), (-2, 1))))
    for _ in range(random.randrange(12)):
        change(random, start)
    sides = [start.copied(), start.copied()]
    for side in sides:
        for _ in range(random.randrange(6)):
            change(random, side)
    return start, *sides


class JoinedLists(unittest.TestCase):

    def check(self, lists, order, pins, conflicts, **more):
        """Check what is returned, that the lists stay as they are, and that the merged list is well made."""
        before = [whole(hand) for hand in lists]
        result = join_lists(*lists, **more)
        self.assertIs(type(result), tuple)
        hand, told = result
        self.assertIs(type(hand), HandList)
        self.assertIs(type(told), list)
        self.assertEqual((hand.order, hand.pins), (order, pins))
        self.assertEqual(told, conflicts)
        for entry in told:
            self.assertIs(type(entry), tuple)
        self.assertEqual(whole(hand), ([], held(hand), []))
        base = rule_order(hand.rule, items_of(hand))
        self.assertTrue(is_least(base, order, pins, level_cover(base, order)))
        self.assertEqual([whole(hand) for hand in lists], before)
        return hand

    def check_words(self, lists, **more):
        (rule, items, order, pins), told = joined_by_words(*[parts(hand) for hand in lists], **more)
        hand = self.check(lists, order, pins, told, **more)
        self.assertEqual(hand, HandList.made(lists[0].width, rule, items, pins))

    def test_nothing_has_changed(self):
        lists = three(1, 2, 3)
        self.assertEqual(self.check(lists, [1, 2, 3], {}, []), lists[0])
        lists = HandList(3), HandList(3), HandList(3)
        self.assertEqual(self.check(lists, [], {}, []), HandList(3))

    def test_one_side_has_changed(self):
        for seed in range(60):
            start, side, _ = case(seed)
            for prefer in ("first", "second"):
                for lists in ((start, side, start), (start, start, side)):
                    hand, told = join_lists(*lists, prefer=prefer)
                    self.assertEqual(told, [])
                    self.assertEqual((hand.rule, items_of(hand)), (side.rule, items_of(side)))

    def test_both_sides_have_moved(self):
        start, first, second = three(1, 2, 3, 4, 5)
        first.move(5)
        second.move(2, behind=3)
        self.check((start, first, second), [5, 1, 3, 2, 4], {5: 0, 2: 3}, [])
        self.check((start, second, first), [5, 1, 3, 2, 4], {5: 0, 2: 3}, [])

    def test_a_conflict_of_places(self):
        start, first, second = three(1, 2, 3, 4)
        first.move(4)
        second.move(4, behind=1)
        lists = (start, first, second)
        self.check(lists, [4, 1, 2, 3], {4: 0}, [("place", 4)])
        self.check(lists, [4, 1, 2, 3], {4: 0}, [("place", 4)], prefer="first")
        self.check(lists, [1, 4, 2, 3], {4: 1}, [("place", 4)], prefer="second")

    def test_both_have_moved_to_the_same_place(self):
        start, first, second = three(1, 2, 3, 4)
        first.move(4)
        second.move(4)
        self.check((start, first, second), [4, 1, 2, 3], {4: 0}, [])

    def test_items_that_one_side_has_added(self):
        start, first, second = three(10, 20, 30)
        first.add_item(7, 15)
        second.add_item(8, 25)
        for prefer in ("first", "second"):
            hand = self.check((start, first, second), [1, 7, 2, 8, 3], {}, [], prefer=prefer)
            self.assertEqual(items_of(hand), {1: (10,), 7: (15,), 2: (20,), 8: (25,), 3: (30,)})

    def test_items_that_both_sides_have_added(self):
        start, first, second = three(10, 20)
        first.add_item(7, 15)
        second.add_item(7, 15)
        self.check((start, first, second), [1, 7, 2], {}, [])
        second.set_fields(7, 25)
        lists = (start, first, second)
        self.assertEqual(self.check(lists, [1, 7, 2], {}, [("fields", 7)]).fields_of(7), (15,))
        self.assertEqual(self.check(lists, [1, 2, 7], {}, [("fields", 7)], prefer="second").fields_of(7), (25,))

    def test_items_that_are_dropped(self):
        start, first, second = three(1, 2, 3, 4)
        first.drop(2)
        second.drop(3)
        self.check((start, first, second), [1, 4], {}, [])
        second.drop(2)
        self.check((start, first, second), [1, 4], {}, [])
        first.drop(1, 3, 4)
        hand = self.check((start, first, second), [], {}, [])
        self.assertEqual((hand.width, hand.rule), (1, (1,)))

    def test_dropped_by_one_side_and_changed_by_the_other(self):
        for prefer in ("first", "second"):
            start, first, second = three(1, 2, 3)
            first.drop(2)
            second.set_fields(2, 9)
            self.check((start, first, second), [1, 3], {}, [("fields", 2)], prefer=prefer)
            self.check((start, second, first), [1, 3], {}, [("fields", 2)], prefer=prefer)
            second.set_fields(2, 2)
            self.check((start, first, second), [1, 3], {}, [], prefer=prefer)

    def test_dropped_by_one_side_and_moved_by_the_other(self):
        # The orders that are merged are those of the merged items, so a dropped one has no place in them.
        for prefer in ("first", "second"):
            start, first, second = three(1, 2, 3, 4)
            first.drop(3)
            second.move(3)
            self.check((start, first, second), [1, 2, 4], {}, [], prefer=prefer)
            self.check((start, second, first), [1, 2, 4], {}, [], prefer=prefer)
            second.set_fields(3, 9)
            self.check((start, first, second), [1, 2, 4], {}, [("fields", 3)], prefer=prefer)

    def test_dropped_by_both_sides_and_dropped_and_added_again(self):
        start, first, second = three(1, 2, 3)
        first.drop(2)
        first.add_item(2, 9)
        hand = self.check((start, first, second), [1, 3, 2], {}, [])
        self.assertEqual(hand.fields_of(2), (9,))

    def test_fields_are_merged_as_values(self):
        start, first, second = three((1, 1), (2, 2), (3, 3), width=2)
        first.set_fields(1, 1, 9)
        second.set_fields(2, 2, 8)
        first.set_fields(3, 3, 7)
        second.set_fields(3, 3, 7)
        hand = self.check((start, first, second), [1, 2, 3], {}, [])
        self.assertEqual(items_of(hand), {1: (1, 9), 2: (2, 8), 3: (3, 7)})

    def test_fields_in_conflict(self):
        start, first, second = three((1, 1), (2, 2), width=2)
        first.set_fields(1, 1, 9)
        second.set_fields(1, 5, 1)
        lists = (start, first, second)
        self.assertEqual(self.check(lists, [1, 2], {}, [("fields", 1)]).fields_of(1), (1, 9))
        self.assertEqual(self.check(lists, [2, 1], {}, [("fields", 1)], prefer="second").fields_of(1), (5, 1))

    def test_a_change_and_its_taking_back_are_no_change(self):
        start, first, second = three(1, 2)
        first.set_fields(1, 9)
        first.set_fields(1, 1)
        second.set_fields(1, 5)
        self.assertEqual(self.check((start, first, second), [2, 1], {}, []).fields_of(1), (5,))
        self.assertEqual(self.check((start, second, first), [2, 1], {}, []).fields_of(1), (5,))

    def test_the_rule_is_merged_as_a_value(self):
        start, first, second = three((1, 3), (2, 2), (3, 1), width=2)
        first.rule = (2,)
        self.assertEqual(self.check((start, first, second), [3, 2, 1], {}, []).rule, (2,))
        self.assertEqual(self.check((start, second, first), [3, 2, 1], {}, []).rule, (2,))
        second.rule = (2,)
        self.assertEqual(self.check((start, first, second), [3, 2, 1], {}, []).rule, (2,))
        second.rule = ()
        lists = (start, first, second)
        self.assertEqual(self.check(lists, [3, 2, 1], {}, [("rule",)], prefer="first").rule, (2,))
        self.assertEqual(self.check(lists, [1, 2, 3], {}, [("rule",)], prefer="second").rule, ())

    def test_the_sequence_of_the_conflicts(self):
        start, first, second = three(1, 2, 3, 4, 5, 6, 7, 8)
        first.drop(5)
        second.set_fields(5, 50)
        for side, field, rule, places in ((first, 20, (), (1, 2)), (second, 30, (-1,), (3, 0))):
            side.rule = rule
            side.add_item(10, field)
            side.set_fields(8, field)
            side.set_fields(2, field)
            side.move(8, behind=places[0])
            side.move(6, behind=places[1])
        told = [("rule",), ("fields", 2), ("fields", 5), ("place", 6), ("fields", 8), ("place", 8), ("fields", 10)]
        self.check((start, first, second), [1, 8, 2, 6, 3, 4, 7, 10], {8: 1, 6: 2}, told)
        self.check_words((start, first, second))
        self.check_words((start, first, second), prefer="second")

    def test_the_conflicts_come_in_ascending_order_of_ids(self):
        ids = [TOP_ID, 64, 33, 999999, 7, 512, 100, 4096]
        start = HandList.made(1, (1,), {row_id: (place,) for place, row_id in enumerate(ids)}, {})
        first, second = start.copied(), start.copied()
        first.drop(*ids[:4])
        for row_id in ids:
            second.set_fields(row_id, 50)
        for row_id in ids[4:]:
            first.set_fields(row_id, 60)
        _, told = join_lists(start, first, second)
        self.assertEqual(told, [("fields", row_id) for row_id in sorted(ids)])

    def test_places_are_compared_over_the_merged_rule(self):
        # One side moves 3, the other one turns the rule: 3 is pinned behind 1, wherever 1 stands.
        start, first, second = three(1, 2, 3, 4)
        first.move(3, behind=1)
        second.rule = (-1,)
        self.check((start, first, second), [4, 2, 1, 3], {3: 1}, [])
        self.check((start, second, first), [4, 2, 1, 3], {3: 1}, [])

    def test_pins_on_other_items_lead_through_them(self):
        # 4 is pinned to 2, which the other side has dropped: it stays where 2 was.
        start, first, second = three(1, 2, 3, 4)
        first.move(4, behind=2)
        second.drop(2)
        self.check((start, first, second), [1, 4, 3], {4: 1}, [])
        self.check((start, second, first), [1, 4, 3], {4: 1}, [])

    def test_other_items_keep_their_own_fields(self):
        # The first side has put 2 behind 3 by its field and 1 behind 2 by hand; the second side drops 2.
        start, first, second = three(10, 20, 30, 40)
        first.set_fields(2, 35)
        first.move(1, behind=2)
        second.drop(2)
        self.check((start, first, second), [3, 1, 4], {1: 3}, [("fields", 2)])
        self.check((start, second, first), [3, 1, 4], {1: 3}, [("fields", 2)])

    def test_sides_that_have_moved_nothing_give_no_pins(self):
        start, first, second = three((1, 5), (2, 4), (3, 3), (4, 2), width=2)
        first.rule = (2,)
        first.add_item(9, 3, 3)
        second.set_fields(1, 7, 7)
        second.drop(3)
        second.add_item(8, 0, 0)
        hand, _ = join_lists(start, first, second)
        self.assertEqual(hand.pins, {})
        self.assertEqual(hand.order, rule_order(hand.rule, items_of(hand)))

    def test_pins_of_the_start_stay(self):
        start = filled(1, 2, 3, 4)
        start.move(4, behind=1)
        first, second = start.copied(), start.copied()
        self.check((start, first, second), [1, 4, 2, 3], {4: 1}, [])
        first.move(3)
        self.check((start, first, second), [3, 1, 4, 2], {3: 0, 4: 1}, [])

    def test_a_pin_that_one_side_has_taken_away(self):
        start = filled(1, 2, 3, 4)
        start.move(4, behind=1)
        first, second = start.copied(), start.copied()
        first.reset(4)
        self.check((start, first, second), [1, 2, 3, 4], {}, [])
        self.check((start, second, first), [1, 2, 3, 4], {}, [])

    def test_ids_that_are_pinned_in_neither_side_are_favoured(self):
        start, first, second = three(1, 2)
        first.move(1, behind=2)
        self.check((start, first, second), [2, 1], {1: 2}, [])
        self.check((start, second, first), [2, 1], {1: 2}, [])
        start, first, second = three(1, 2)
        first.move(2)
        self.check((start, first, second), [2, 1], {2: 0}, [])
        self.check((start, second, first), [2, 1], {2: 0}, [])

    def test_pins_of_the_start_alone_do_not_count(self):
        start = filled(1, 2)
        start.move(2)
        first, second = start.copied(), start.copied()
        for side in (first, second):
            side.reset(2)
            side.move(1, behind=2)
        self.check((start, first, second), [2, 1], {1: 2}, [])

    def test_against_the_words_of_the_document(self):
        for seed in range(500):
            with self.subTest(seed=seed):
                lists = case(seed)
                self.check_words(lists, prefer="first")
                self.check_words(lists, prefer="second")

    def test_lists_of_other_origin(self):
        for seed in range(60):
            with self.subTest(seed=seed):
                self.check_words((case(seed)[0], case(seed + 1000)[1], case(seed + 2000)[2]))

    def test_the_start_has_undos_and_redos(self):
        start, first, second = three(1, 2, 3)
        for hand in (start, first, second):
            hand.move(3)
            hand.move(2)
            hand.undo()
        hand = self.check((start, first, second), [3, 1, 2], {3: 0}, [])
        hand.move(2)
        hand.undo()
        self.assertEqual(hand.order, [3, 1, 2])

    def test_what_is_returned_is_new(self):
        start, first, second = three(1, 2, 3)
        first.move(3)
        before = [whole(hand) for hand in (start, first, second)]
        hand, told = join_lists(start, first, second)
        hand.drop(1, 2)
        told.append(("rule",))
        self.assertEqual([whole(hand) for hand in (start, first, second)], before)
        again, told = join_lists(start, first, second)
        self.assertEqual((again.order, told), ([3, 1, 2], []))

    def test_the_same_list_three_times(self):
        hand = filled(1, 2, 3)
        hand.move(3)
        joined = self.check((hand, hand, hand), [3, 1, 2], {3: 0}, [])
        joined.drop(3)
        self.assertEqual(hand.order, [3, 1, 2])

    def test_arguments_by_name(self):
        start, first, second = three(1, 2, 3, 4)
        first.move(4)
        second.move(4, behind=1)
        more = {"second": second, "start": start, "first": first}
        self.assertEqual(join_lists(prefer="second", **more)[0].order, [1, 4, 2, 3])
        self.assertEqual(join_lists(prefer="first", **more)[0].order, [4, 1, 2, 3])

    def test_full_lists(self):
        random = Random(12)
        start = HandList(2, rule=(1, -2))
        for row_id in range(1, 291):
            start.add_item(row_id, random.randrange(20), random.randrange(20))
        first, second = start.copied(), start.copied()
        for new, side in ((501, first), (601, second)):
            for row_id in range(new, new + 5):
                side.add_item(row_id, random.randrange(20), random.randrange(20))
            for _ in range(40):
                ids = random.sample(side.order, 3)
                side.move(*ids[:2], behind=ids[2])
        hand, _ = join_lists(start, first, second)
        base = rule_order(hand.rule, items_of(hand))
        self.assertEqual(len(hand), 300)
        self.assertTrue(is_least(base, hand.order, hand.pins, level_cover(base, hand.order)))


class Errors(unittest.TestCase):

    def check(self, error, name, value, lists, **more):
        before = [whole(hand) for hand in lists]
        with self.assertRaises(error) as caught:
            join_lists(*lists, **more)
        self.assertIs(type(caught.exception), error)
        kept = getattr(caught.exception, name)
        self.assertEqual(kept, value)
        self.assertIs(type(kept), type(value))
        self.assertEqual([whole(hand) for hand in lists], before)

    def test_other_widths(self):
        for widths in ((1, 2, 2), (2, 1, 2), (2, 2, 1), (1, 2, 3), (4, 3, 3)):
            for prefer in ("first", "second"):
                self.check(BadMove, "value", widths, [HandList(width) for width in widths], prefer=prefer)

    def side(self, width, ids):
        hand = HandList.made(width, (), {row_id: (0,) * width for row_id in ids}, {})
        hand.move(ids[-1])
        hand.reset()
        hand.undo()
        return hand

    def test_too_many_items(self):
        start = self.side(1, range(1, 201))
        first, second = self.side(1, range(1, 251)), self.side(1, [*range(1, 201), *range(301, 352)])
        self.check(TooMany, "count", 301, (start, first, second))
        self.check(TooMany, "count", 301, (start, second, first), prefer="second")
        second.drop(301)
        self.assertEqual(len(join_lists(start, first, second)[0]), 300)
        full = self.side(1, range(301, 601))
        self.check(TooMany, "count", 500, (HandList(1), full, start))
        self.check(TooMany, "count", 600, (HandList(1), full, self.side(1, range(1, 301))))

    def test_widths_before_too_many(self):
        full, other = self.side(1, range(1, 301)), self.side(2, range(301, 601))
        self.check(BadMove, "value", (1, 1, 2), (HandList(1), full, other))
        self.check(BadMove, "value", (2, 1, 2), (HandList(2), full, other))


class Definitions(unittest.TestCase):

    def test_functions_are_defined_in_their_file(self):
        self.assertEqual(joining.join_lists.__module__, "handsorted.joining")


if __name__ == "__main__":
    unittest.main()
