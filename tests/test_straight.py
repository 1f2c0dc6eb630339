"""Tests of handsorted.straight: the best straight set."""

import unittest
from itertools import combinations, permutations
from random import Random

from handsorted import straight
from handsorted.covers import exact_weights, is_best, level_cover
from handsorted.straight import best_straight
from tests.words import best_by_search, some_weights, weight

HUGE = 10 ** 59


class BestStraightSets(unittest.TestCase):

    def check(self, base, goal, answer, **more):
        with self.subTest(base=base, goal=goal, **more):
            result = best_straight(base, goal, **more)
            self.assertEqual(result, answer)
            self.assertIs(type(result), list)

    def check_by_search(self, base, goal, weights, favoured):
        answer = best_by_search(base, goal, weights, favoured)
        self.check(base, goal, answer, weights=weights, favoured=favoured)

    def test_examples(self):
        self.check([1, 2, 3, 4], [3, 4, 1, 2], [3, 4])
        self.check([1, 2, 3, 4], [3, 4, 1, 2], [1, 2], favoured=[1])
        self.check([1, 2, 3, 4], [3, 4, 1, 2], [1, 2], weights={2: 5})

    def test_empty_orders(self):
        self.check([], [], [])
        self.check([], [], [], weights={1: 5}, favoured=[1])
        self.check([], [], [], weights=None, favoured=())

    def test_one_id(self):
        self.check([7], [7], [7])
        self.check([7], [7], [7], weights={7: HUGE}, favoured=(7,))

    def test_equal_orders(self):
        for order in ([1, 2, 3], [3, 1, 2], list(range(300, 0, -1))):
            self.check(order, order, order)

    def test_reversed_orders(self):
        self.check([1, 2, 3], [3, 2, 1], [3])
        self.check([1, 2, 3], [3, 2, 1], [2], favoured=[2])
        self.check([1, 2, 3], [3, 2, 1], [2], favoured=[1, 2])
        self.check([1, 2, 3], [3, 2, 1], [1], weights={1: 2}, favoured=[2, 3])

    def test_the_sequence_is_that_of_both_orders(self):
        self.check([9, 2, 5, 1], [2, 9, 5, 1], [2, 5, 1])
        self.check([9, 2, 5, 1], [5, 1, 9, 2], [5, 1])

    def test_the_weight_comes_before_the_favoured_ids(self):
        self.check([1, 2, 3, 4], [4, 1, 2, 3], [1, 2, 3], favoured=[4])
        self.check([1, 2, 3, 4], [4, 1, 2, 3], [4], weights={4: 4}, favoured=[1, 2, 3])
        self.check([1, 2, 3, 4], [4, 1, 2, 3], [4], weights={4: 3}, favoured=[4])

    def test_the_number_of_favoured_ids_counts(self):
        self.check([1, 2, 3, 4], [3, 4, 1, 2], [1, 2], favoured=[1, 2, 3])
        self.check([1, 2, 3, 4], [3, 4, 1, 2], [3, 4], favoured=[1, 3])
        self.check([1, 2, 3, 4, 5, 6], [4, 5, 6, 1, 2, 3], [1, 2, 3], favoured=[4, 2, 3])

    def test_one_favoured_id_counts_no_matter_its_weight(self):
        self.check([1, 2, 3, 4], [3, 4, 1, 2], [1, 2], weights={3: 9, 1: 5, 2: 5}, favoured=[1, 2, 3])
        self.check([1, 2, 3, 4], [3, 4, 1, 2], [1, 2], weights={3: 9, 1: 5, 2: 5}, favoured=[2])

    def test_a_favoured_id_given_twice_counts_once(self):
        self.check([1, 2, 3, 4], [3, 4, 1, 2], [3, 4], favoured=[1, 1, 1, 3, 4])
        self.check([1, 2, 3, 4], [3, 4, 1, 2], [3, 4], favoured=(1, 1, 3))

    def test_the_least_list_of_positions(self):
        self.check([1, 2, 3, 4], [2, 1, 4, 3], [2, 4])
        self.check([1, 2, 3, 4], [2, 1, 4, 3], [2, 3], favoured=[3])
        self.check([1, 2, 3, 4], [2, 1, 4, 3], [1, 4], favoured=[1])
        self.check([1, 2, 3, 4, 5], [5, 3, 4, 1, 2], [3, 4])

    def test_the_first_position_decides_before_the_later_ones(self):
        # The positions [0, 3] come before [1, 2].
        self.check([2, 3, 1, 4], [1, 2, 3, 4], [2, 3, 4])
        self.check([2, 3, 1, 4], [1, 2, 3, 4], [1, 4], weights={1: 2})

    def test_favoured_as_a_list_and_as_a_tuple(self):
        for favoured in ([1], (1,), [1, 2], (2, 1)):
            self.check([1, 2, 3, 4], [3, 4, 1, 2], [1, 2], favoured=favoured)

    def test_ids_that_are_in_no_order_do_not_matter(self):
        self.check([1, 2, 3, 4], [3, 4, 1, 2], [3, 4], favoured=[9, 8, 7, 6, 5])
        self.check([1, 2, 3, 4], [3, 4, 1, 2], [1, 2], favoured=[9, 1, 8])
        self.check([1, 2, 3, 4], [3, 4, 1, 2], [3, 4], weights={9: HUGE, 10 ** 6: 7})
        self.check([1, 2, 3, 4], [3, 4, 1, 2], [1, 2], weights={9: HUGE, 2: 2})

    def test_no_weights(self):
        for weights in (None, {}, {1: 1}, {1: 1, 2: 1, 3: 1, 4: 1}, {1: 7, 2: 7, 3: 7, 4: 7}):
            self.check([1, 2, 3, 4], [3, 4, 1, 2], [3, 4], weights=weights)

    def test_weights_of_great_size(self):
        self.check([1, 2, 3, 4], [3, 4, 1, 2], [1, 2], weights={1: HUGE, 3: HUGE - 1})
        self.check([1, 2, 3, 4], [3, 4, 1, 2], [3, 4], weights={1: HUGE, 3: HUGE, 4: 2})
        self.check([1, 2, 3, 4], [3, 4, 1, 2], [3, 4], weights={1: HUGE, 3: HUGE})
        self.check([1, 2, 3, 4], [3, 4, 1, 2], [1, 2], weights={1: HUGE, 3: HUGE}, favoured=[2])
        self.check([1, 2, 3, 4], [4, 1, 2, 3], [4], weights={1: HUGE, 2: HUGE, 3: HUGE, 4: 3 * HUGE + 1})
        self.check([1, 2, 3, 4], [4, 1, 2, 3], [1, 2, 3], weights={1: HUGE, 2: HUGE, 3: HUGE, 4: 3 * HUGE - 1})

    def test_the_exact_weights_give_the_same_set(self):
        for goal in permutations(range(1, 6)):
            for favoured in ([], [1], [3, 5], [2, 4, 1]):
                base, goal = [1, 2, 3, 4, 5], list(goal)
                exact = exact_weights(goal, weights={2: 3}, favoured=favoured)
                answer = best_by_search(base, goal, {2: 3}, favoured)
                self.check(base, goal, answer, weights=exact)

    def test_all_short_orders_without_weights(self):
        for many in range(1, 7):
            base = list(range(1, many + 1))
            for goal in permutations(base):
                self.check_by_search(base, list(goal), None, ())

    def test_short_orders_with_all_favoured_sets(self):
        base = [1, 2, 3, 4]
        for goal in permutations(base):
            for many in range(1, 5):
                for favoured in combinations(base, many):
                    self.check_by_search(base, list(goal), None, favoured)

    def test_short_orders_with_weights_and_favoured_ids(self):
        base = [4, 2, 1, 3]
        for goal in permutations(base):
            for weights in some_weights(base, (2, 3, HUGE)):
                for favoured in ((), [1], (2, 3), [4, 1]):
                    self.check_by_search(base, list(goal), weights, favoured)

    def test_longer_orders(self):
        random = Random(5)
        for _ in range(150):
            base = random.sample(range(1, 50), random.randrange(5, 10))
            goal = random.sample(base, len(base))
            greatest = random.choice((2, 4, HUGE))
            weights = {row_id: random.randint(1, greatest) for row_id in random.sample(base, len(base) // 2)}
            favoured = random.sample(base, random.randrange(len(base)))
            self.check_by_search(base, goal, weights, favoured)

    def test_long_orders(self):
        random = Random(6)
        base = random.sample(range(1, 10 ** 6), 300)
        for wide in (1, 3, HUGE):
            goal = random.sample(base, 300)
            weights = {row_id: random.randint(1, wide) for row_id in base}
            favoured = random.sample(base, 100)
            best = best_straight(base, goal, weights=weights, favoured=favoured)
            cover = level_cover(base, goal, weights=exact_weights(goal, weights=weights, favoured=favoured))
            self.assertTrue(is_best(base, goal, best, cover, weights=weights, favoured=favoured))
            self.assertEqual(weight(best, weights), sum(times for times, _ in level_cover(base, goal, weights=weights)))

    def test_ids_of_any_size(self):
        self.check([10 ** 6, 1, 500], [1, 500, 10 ** 6], [1, 500])

    def test_the_arguments_stay_as_they_are(self):
        base, goal, weights, favoured = [1, 2, 3, 4], [3, 4, 1, 2], {2: 5, 9: 1}, [4, 1]
        best_straight(base, goal, weights=weights, favoured=favoured)
        self.assertEqual((base, goal), ([1, 2, 3, 4], [3, 4, 1, 2]))
        self.assertEqual((weights, favoured), ({2: 5, 9: 1}, [4, 1]))

    def test_what_is_returned_is_new(self):
        base, goal = [2, 1], [2, 1]
        result = best_straight(base, goal)
        result.append(3)
        self.assertEqual((base, goal), ([2, 1], [2, 1]))
        self.assertEqual(best_straight(base, goal), [2, 1])

    def test_arguments_by_name(self):
        self.assertEqual(best_straight(favoured=(1,), goal=[3, 4, 1, 2], weights=None, base=[1, 2, 3, 4]), [1, 2])
        self.assertEqual(best_straight(weights={3: 2}, goal=[3, 4, 1, 2], base=[1, 2, 3, 4]), [3, 4])


class Definitions(unittest.TestCase):

    def test_functions_are_defined_in_their_file(self):
        self.assertEqual(straight.best_straight.__module__, "handsorted.straight")


if __name__ == "__main__":
    unittest.main()
