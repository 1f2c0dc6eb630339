"""Tests of handsorted.merging: moved ids, conflicts and merged orders."""

import unittest
from itertools import permutations
from random import Random

from handsorted import merging
from handsorted.merging import conflicts, merge_orders, moved_ids
from tests.merge_words import conflicts_by_words, merged_by_words, moved_by_words

HUGE = 10 ** 59
TOP_ID = 10 ** 6


def orders_of(ids):
    """Return all orders of some of the ids."""
    return [list(found) for many in range(len(ids) + 1) for found in permutations(ids, many)]


def side_of(random, start, new):
    """Return an order that a side may have made: some ids dropped, some moved, some added."""
    side = [row_id for row_id in start if random.random() > 0.15]
    for row_id in random.sample(side, min(len(side), random.randrange(4))):
        side.remove(row_id)
        side.insert(random.randint(0, len(side)), row_id)
    for row_id in random.sample(new, random.randrange(len(new) + 1)):
        side.insert(random.randint(0, len(side)), row_id)
    return side


def cases(many, size=7):
    """Return starts with two sides each, and weights."""
    found = []
    for seed in range(many):
        random = Random(seed)
        start = random.sample(range(1, 30), random.randrange(size + 1))
        sides = [side_of(random, start, [40, 50, new]) for new in (60, 70)]
        weights = random.choice((None, {}, {row_id: random.choice((2, 3, HUGE)) for row_id in start[::2] + [50]}))
        found.append((start, *sides, weights))
    return found


class MovedIds(unittest.TestCase):

    def check(self, start, side, answer, **more):
        with self.subTest(start=start, side=side, **more):
            result = moved_ids(start, side, **more)
            self.assertEqual(result, answer)
            self.assertIs(type(result), list)

    def test_nothing_is_moved(self):
        for order in ([], [1], [3, 1, 2]):
            self.check(order, list(order), [])

    def test_what_is_not_in_the_best_straight_set(self):
        self.check([1, 2, 3, 4], [4, 1, 2, 3], [4])
        self.check([1, 2, 3, 4], [3, 4, 1, 2], [1, 2])
        self.check([1, 2, 3, 4], [4, 3, 2, 1], [3, 2, 1])

    def test_the_sequence_is_that_of_the_side(self):
        self.check([1, 2, 3, 4, 5, 6], [6, 2, 5, 3, 4, 1], [6, 5, 1])

    def test_weights(self):
        self.check([1, 2, 3, 4], [4, 1, 2, 3], [1, 2, 3], weights={4: 4})
        self.check([1, 2, 3, 4], [4, 1, 2, 3], [4], weights={4: 3, 1: 2})
        self.check([1, 2, 3, 4], [3, 4, 1, 2], [3, 4], weights={1: HUGE, 3: HUGE - 1})
        self.check([1, 2, 3, 4], [3, 4, 1, 2], [1, 2], weights=None)

    def test_dropped_ids(self):
        self.check([1, 2, 3, 4], [2, 3], [])
        self.check([1, 2, 3, 4], [3, 2], [2])
        self.check([1, 2, 3], [], [])
        # With 2 and 3, which the side does not have, [2, 3, 4] would be straight.
        self.check([1, 2, 3, 4], [4, 1], [1])

    def test_dropped_ids_have_no_weight(self):
        self.check([1, 2, 3, 4], [4, 1], [1], weights={2: HUGE, 3: HUGE})

    def test_new_ids(self):
        self.check([1, 2], [9, 1, 2], [9])
        self.check([1, 2], [1, 9, 2, 8], [9, 8])
        self.check([], [5, 3, 4], [5, 3, 4])
        self.check([1, 2], [5, TOP_ID], [5, TOP_ID])
        self.check([1, 2], [9, 1, 2], [9], weights={9: HUGE})

    def test_dropped_and_new_and_moved(self):
        self.check([1, 2, 3, 4, 5], [9, 5, 1, 8, 4], [9, 5, 8])

    def test_all_small_orders(self):
        for start in ([], [1], [2, 1], [3, 1, 2]):
            for side in orders_of([1, 2, 3, 4]):
                for weights in (None, {1: 2}, {2: HUGE, 4: 5}):
                    self.check(start, side, moved_by_words(start, side, weights), weights=weights)

    def test_longer_orders(self):
        for start, first, second, weights in cases(200):
            self.check(start, first, moved_by_words(start, first, weights), weights=weights)
            self.check(start, second, moved_by_words(start, second, weights), weights=weights)

    def test_the_arguments_stay_as_they_are(self):
        start, side, weights = [1, 2, 3], [3, 9, 1], {1: 2}
        moved_ids(start, side, weights=weights).append(7)
        self.assertEqual((start, side, weights), ([1, 2, 3], [3, 9, 1], {1: 2}))
        self.check([], side, [3, 9, 1])
        moved_ids([], side).clear()
        self.assertEqual(side, [3, 9, 1])

    def test_arguments_by_name(self):
        self.assertEqual(moved_ids(weights={1: 2}, side=[2, 1], start=[1, 2]), [2])


class Conflicts(unittest.TestCase):

    def check(self, start, first, second, answer, **more):
        with self.subTest(start=start, first=first, second=second, **more):
            result = conflicts(start, first, second, **more)
            self.assertEqual(result, answer)
            self.assertIs(type(result), list)
            self.assertEqual(conflicts(start, second, first, **more), answer)

    def test_example(self):
        self.check([1, 2, 3, 4], [4, 1, 2, 3], [1, 4, 2, 3], [4])

    def test_no_conflicts(self):
        self.check([], [], [], [])
        self.check([1, 2, 3], [1, 2, 3], [1, 2, 3], [])
        self.check([1, 2, 3], [3, 1, 2], [1, 2, 3], [])
        self.check([1, 2, 3, 4], [4, 1, 2, 3], [2, 1, 3, 4], [])

    def test_both_have_moved_to_the_same_place(self):
        self.check([1, 2, 3, 4], [4, 1, 2, 3], [4, 1, 2, 3], [])
        self.check([1, 2, 3, 4], [1, 4, 2, 3], [1, 4, 3], [])
        self.check([1, 2, 3, 4], [4, 1, 2, 3], [4, 2, 3], [])

    def test_the_ids_before_count_as_they_are(self):
        # 5 stands behind 9 and behind 1; without the new 9 it would be the same place.
        self.check([1, 2, 3, 5], [1, 9, 5, 2, 3], [1, 5, 2, 3], [5])
        self.check([1, 2, 3, 5], [1, 9, 5, 2, 3], [1, 9, 5, 2, 3], [])
        self.check([1, 2, 3, 5], [5, 1, 2, 3], [9, 5, 1, 2, 3], [5])
        # 1 is dropped by the second side.
        self.check([1, 2, 3, 4, 5], [1, 5, 2, 3, 4], [5, 2, 3, 4], [5])

    def test_new_ids_of_both_sides(self):
        self.check([1, 2], [1, 9, 2], [1, 2, 9], [9])
        self.check([1, 2], [1, 9, 2], [1, 9, 2], [])
        self.check([1, 2], [9, 1, 2], [9, 1, 2], [])
        self.check([], [9, 8], [8, 9], [8, 9])
        self.check([], [9, 8], [9, 8], [])

    def test_new_ids_of_one_side(self):
        self.check([1, 2], [1, 9, 2], [1, 2, 8], [])

    def test_dropped_and_moved(self):
        self.check([1, 2, 3], [3, 1, 2], [1, 2], [3])
        self.check([1, 2, 3], [1, 2], [3, 1, 2], [3])
        self.check([1, 2, 3], [1, 2], [1, 2, 3], [])
        self.check([1, 2, 3], [1, 2], [1, 2], [])
        self.check([1, 2, 3], [3, 1, 2], [], [3])

    def test_ascending(self):
        self.check([7, 1, 9, 2, 5], [5, 2, 9, 1, 7], [7], [1, 2, 9])
        self.check([1, 2, 3, 4, 5, 6], [1, 9, 6, 2, 3, 4, 5], [6, 2, 1, 3, 4, 9], [6, 9])
        self.check([6, 5, 1, 2, 3, 4], [6, 1, 2, 3, 4, 5], [1, 2, 3, 4], [5])
        self.check([1, 2, 3, 4, 5], [5, 3, 1, 2, 4], [1, 2, 4], [3, 5])

    def test_weights(self):
        start, first, second = [1, 2, 3, 4], [4, 1, 2, 3], [1, 4, 2, 3]
        self.check(start, first, second, [4], weights=None)
        self.check(start, first, second, [4], weights={})
        # Now 1, 2 and 3 are moved by the one, and 2 and 3 by the other.
        self.check(start, first, second, [2], weights={4: 3})
        self.check(start, first, second, [2], weights={4: HUGE, 9: 4})

    def test_small_orders(self):
        for start in ([2, 1], [3, 1, 2]):
            sides = orders_of([1, 2, 3, 4])
            for first in sides:
                for second in sides[::3]:
                    self.check(start, first, second, conflicts_by_words(start, first, second))

    def test_longer_orders(self):
        for start, first, second, weights in cases(300):
            answer = conflicts_by_words(start, first, second, weights)
            self.check(start, first, second, answer, weights=weights)

    def test_the_arguments_stay_as_they_are(self):
        start, first, second, weights = [1, 2, 3], [3, 1, 2], [1, 3, 9], {1: 2}
        conflicts(start, first, second, weights=weights).append(5)
        self.assertEqual((start, first, second, weights), ([1, 2, 3], [3, 1, 2], [1, 3, 9], {1: 2}))

    def test_arguments_by_name(self):
        self.assertEqual(conflicts(weights={}, second=[2, 1], first=[1], start=[1, 2]), [])
        self.assertEqual(conflicts(second=[3, 1, 2], first=[1, 2], start=[1, 2, 3], weights=None), [3])


class MergedOrders(unittest.TestCase):

    def check(self, start, first, second, answer, **more):
        with self.subTest(start=start, first=first, second=second, **more):
            result = merge_orders(start, first, second, **more)
            self.assertEqual(result, answer)
            self.assertIs(type(result), list)

    def check_both(self, start, first, second, answer, **more):
        """Check also with the sides the other way round."""
        self.check(start, first, second, answer, prefer="first", **more)
        self.check(start, second, first, answer, prefer="second", **more)

    def test_example(self):
        self.check([1, 2, 3, 4], [4, 1, 2, 3], [2, 1, 3, 4], [4, 2, 1, 3])

    def test_one_side_unchanged(self):
        for start, side, _, weights in cases(100):
            for prefer in ("first", "second"):
                self.check(start, side, start, side, weights=weights, prefer=prefer)
                self.check(start, start, side, side, weights=weights, prefer=prefer)

    def test_both_sides_the_same(self):
        for start, side, _, weights in cases(100):
            for prefer in ("first", "second"):
                self.check(start, side, list(side), side, weights=weights, prefer=prefer)

    def test_empty_orders(self):
        self.check_both([], [], [], [])
        self.check_both([1, 2], [], [], [])
        self.check_both([1, 2], [], [1, 2], [])
        self.check_both([], [5, 3], [], [5, 3])

    def test_the_preferred_side_counts(self):
        start, first, second = [1, 2, 3, 4], [4, 1, 2, 3], [1, 4, 2, 3]
        self.check(start, first, second, [4, 1, 2, 3])
        self.check(start, first, second, [4, 1, 2, 3], prefer="first")
        self.check(start, first, second, [1, 4, 2, 3], prefer="second")

    def test_the_other_moves_of_the_side_that_is_not_preferred_count(self):
        start, first, second = [1, 2, 3, 4, 5, 6], [4, 1, 2, 3, 5, 6], [6, 1, 4, 2, 3, 5]
        self.check(start, first, second, [6, 4, 1, 2, 3, 5], prefer="first")
        self.check(start, first, second, [6, 1, 4, 2, 3, 5], prefer="second")

    def test_a_moved_id_of_both_sides_in_no_conflict_counts_for_one(self):
        start = [1, 2, 3, 4, 5]
        self.check_both(start, [5, 1, 2, 3, 4], [5, 1, 2, 4, 3], [5, 1, 2, 4, 3])

    def test_dropped_ids(self):
        self.check_both([1, 2, 3], [1, 3], [1, 2, 3], [1, 3])
        self.check_both([1, 2, 3], [1, 3], [1, 2], [1])
        self.check_both([1, 2, 3, 4], [1, 3, 4], [1, 2, 4, 3], [1, 4, 3])

    def test_dropped_and_moved_ids_stay(self):
        for prefer in ("first", "second"):
            self.check([1, 2, 3], [1, 2], [3, 1, 2], [3, 1, 2], prefer=prefer)
            self.check([1, 2, 3], [3, 1, 2], [1, 2], [3, 1, 2], prefer=prefer)
            # Here 2 is moved, and not 3.
            self.check([1, 2, 3, 4], [1, 2, 4], [1, 3, 2, 4], [1, 2, 4], prefer=prefer)

    def test_new_ids(self):
        self.check_both([1, 2], [1, 9, 2], [1, 2, 8], [1, 9, 2, 8])
        self.check_both([1, 2], [9, 1, 2], [1, 2], [9, 1, 2])
        self.check_both([1, 2], [1, 9, 8, 2], [7, 1, 2], [7, 1, 9, 8, 2])

    def test_two_new_ids_on_one_anchor(self):
        for prefer in ("first", "second"):
            self.check([1, 2], [1, 9, 2], [1, 8, 2], [1, 9, 8, 2], prefer=prefer)
            self.check([1, 2], [1, 8, 2], [1, 9, 2], [1, 8, 9, 2], prefer=prefer)
            self.check([1, 2], [9, 1, 2], [8, 1, 2], [9, 8, 1, 2], prefer=prefer)
            self.check([1, 2], [9, 7, 1, 2], [8, 6, 1, 2], [9, 7, 8, 6, 1, 2], prefer=prefer)

    def test_a_new_id_and_a_moved_one_on_one_anchor(self):
        for prefer in ("first", "second"):
            self.check([1, 2, 3, 4], [1, 9, 2, 3, 4], [1, 4, 2, 3], [1, 9, 4, 2, 3], prefer=prefer)
            self.check([1, 2, 3, 4], [1, 4, 2, 3], [1, 9, 2, 3, 4], [1, 4, 9, 2, 3], prefer=prefer)

    def test_two_moved_ids_on_one_anchor_stand_in_the_sequence_of_the_start(self):
        start = [1, 2, 3, 4, 5, 6]
        two, six = [1, 3, 4, 2, 5, 6], [1, 2, 3, 4, 6, 5]
        for prefer in ("first", "second"):
            self.check(start, two, six, [1, 3, 4, 2, 6, 5], prefer=prefer)
            self.check(start, six, two, [1, 3, 4, 2, 6, 5], prefer=prefer)

    def test_unless_a_side_has_them_the_other_way_round(self):
        start = [1, 2, 3, 4, 5, 6]
        five, six = [1, 5, 2, 3, 4, 6], [1, 6, 2, 3, 4, 5]
        for prefer in ("first", "second"):
            self.check(start, five, six, [1, 6, 5, 2, 3, 4], prefer=prefer)
            self.check(start, six, five, [1, 6, 5, 2, 3, 4], prefer=prefer)
        one, two = [2, 3, 4, 1, 5, 6], [1, 3, 4, 2, 5, 6]
        for prefer in ("first", "second"):
            self.check(start, one, two, [3, 4, 2, 1, 5, 6], prefer=prefer)
            self.check(start, two, one, [3, 4, 2, 1, 5, 6], prefer=prefer)

    def test_an_id_that_the_other_side_has_dropped_on_the_same_anchor(self):
        start = [1, 2, 3, 4, 5, 6]
        # The second side has dropped 6, which the first one has moved.
        for prefer in ("first", "second"):
            self.check(start, [1, 6, 2, 3, 4, 5], [1, 5, 2, 3, 4], [1, 6, 5, 2, 3, 4], prefer=prefer)
            self.check(start, [1, 5, 2, 3, 4], [1, 6, 2, 3, 4, 5], [1, 5, 6, 2, 3, 4], prefer=prefer)

    def test_chains_of_moved_ids(self):
        start = [1, 2, 3, 4, 5, 6, 7]
        self.check_both(start, [1, 6, 7, 2, 3, 4, 5], [1, 2, 4, 3, 5, 6, 7], [1, 6, 7, 2, 4, 3, 5])
        # 7 and 8 hang on 1 with all that hangs on them.
        first, second = [1, 7, 6, 2, 3, 4, 5], [1, 8, 9, 2, 3, 4, 5, 6, 7]
        self.check(start, first, second, [1, 7, 6, 8, 9, 2, 3, 4, 5])
        self.check(start, second, first, [1, 8, 9, 7, 6, 2, 3, 4, 5])

    def test_what_the_other_side_has_moved_is_no_anchor(self):
        # 9 stands behind 4 on its side, but the other side has moved 4 to the top: so it hangs on 3.
        self.check_both([1, 2, 3, 4], [4, 1, 2, 3], [1, 2, 3, 4, 9], [4, 1, 2, 3, 9])
        # 9 stands behind 1, which the other side has dropped: so it is at the top.
        self.check_both([1, 2, 3], [1, 9, 2, 3], [2, 3], [9, 2, 3])

    def test_weights(self):
        start, first, second = [1, 2, 3, 4], [4, 1, 2, 3], [2, 1, 3, 4]
        self.check(start, first, second, [4, 2, 1, 3])
        self.check(start, first, second, [4, 1, 2, 3], weights={4: 9})
        start, first, second = [1, 2, 3], [3, 1, 2], [2, 3]
        self.check(start, first, second, [3, 2])
        self.check(start, first, second, [3, 1, 2], weights={3: 3})
        self.check(start, first, second, [3, 1, 2], weights={3: HUGE, 9: 2})
        self.check(start, first, second, [3, 2], weights=None)

    def test_small_orders(self):
        sides = orders_of([1, 2, 3, 4])
        for start in ([2, 1], [3, 1, 2]):
            for first in sides:
                for second in sides[::2]:
                    for prefer in ("first", "second"):
                        answer, _ = merged_by_words(start, first, second, None, prefer)
                        self.check(start, first, second, answer, prefer=prefer)

    def test_all_orders_of_the_same_ids(self):
        start = [1, 2, 3, 4]
        for first in permutations(start):
            for second in permutations(start):
                answer, _ = merged_by_words(start, list(first), list(second))
                self.check(start, list(first), list(second), answer)

    def test_longer_orders(self):
        for start, first, second, weights in cases(600):
            for prefer in ("first", "second"):
                answer, moved = merged_by_words(start, first, second, weights, prefer)
                self.check(start, first, second, answer, weights=weights, prefer=prefer)
                for number, side in enumerate((first, second)):
                    rest = [row_id for row_id in answer if row_id not in moved[1 - number]]
                    self.assertEqual(rest, [row_id for row_id in side if row_id in rest])

    def test_long_orders(self):
        random = Random(4)
        start = random.sample(range(1, 1000), 300)
        first, second = [side_of(random, start, list(range(new, new + 9))) for new in (2001, 2006)]
        for prefer in ("first", "second"):
            merged = merge_orders(start, first, second, prefer=prefer)
            mine, others = moved_ids(start, first), moved_ids(start, second)
            dropped = [x for x in start if (x not in first or x not in second) and x not in mine + others]
            self.assertEqual(sorted(merged), sorted({*start, *first, *second} - {*dropped}))
            rest = [row_id for row_id in merged if row_id not in mine + others]
            self.assertEqual(rest, [row_id for row_id in start if row_id in rest])

    def test_the_arguments_stay_as_they_are(self):
        start, first, second, weights = [1, 2, 3], [3, 9, 1, 2], [1, 3, 8], {1: 2}
        merge_orders(start, first, second, weights=weights).append(7)
        self.assertEqual((start, first, second, weights), ([1, 2, 3], [3, 9, 1, 2], [1, 3, 8], {1: 2}))

    def test_what_is_returned_is_new(self):
        start = [1, 2, 3]
        merge_orders(start, start, start).clear()
        self.assertEqual(start, [1, 2, 3])

    def test_arguments_by_name(self):
        more = {"second": [1, 4, 2, 3], "first": [4, 1, 2, 3], "start": [1, 2, 3, 4], "weights": None}
        self.assertEqual(merge_orders(prefer="second", **more), [1, 4, 2, 3])
        self.assertEqual(merge_orders(prefer="first", **more), [4, 1, 2, 3])


class Definitions(unittest.TestCase):

    def test_functions_are_defined_in_their_file(self):
        for name in ("moved_ids", "conflicts", "merge_orders"):
            self.assertEqual(getattr(merging, name).__module__, "handsorted.merging")


if __name__ == "__main__":
    unittest.main()
