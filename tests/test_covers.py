"""Tests of handsorted.covers: level covers, exact weights, and what covers show."""

import unittest
from copy import deepcopy
from itertools import combinations, permutations
from random import Random

from handsorted import covers
from handsorted.covers import exact_weights, is_best, is_cover, is_least, level_cover
from handsorted.pins import lay, least_pins
from handsorted.straight import best_straight
from tests.samples import any_values
from tests.words import all_pins, best_by_search, cover_by_levels, some_weights, straight_sets, weight

HUGE = 10 ** 59
BASE, GOAL = [1, 2, 3, 4], [3, 4, 1, 2]


def size(cover):
    return sum(times for times, _ in cover)


def wrong_runs():
    """Return new values that are no runs of BASE and GOAL, and nearly one."""
    return [
        (), (1,), ((3, 1),), (1, (3, 1), 1), (1, (3, 1), None), ((3, 1), 1), [1, (3, 1)], {1: (3, 1)}, "1",
        (0, (3, 1)), (-1, (3, 1)), (-HUGE, (3, 1)), (True, (3, 1)), (False, (3, 1)), (None, (3, 1)), ("1", (3, 1)),
        ((), (3, 1)), ((1,), (3, 1)), ([1], (3, 1)), ({}, (3, 1)), ({1: 1}, (3, 1)),
        (1, ()), (1, []), (1, [3, 1]), (1, [3]), (1, {}), (1, {3: 1}), (1, 3), (1, "3"), (1, None), (1, True),
        (1, (0,)), (1, (5,)), (1, (3, 5)), (1, (-1,)), (1, (3, 0)), (1, (HUGE,)), (1, (5, 5)),
        (1, (3, 3)), (1, (1, 1)), (1, (3, 1, 1)), (1, (3, 1, 3)),
        (1, (1, 3)), (1, (2, 4)), (1, (2, 3)), (1, (3, 4)), (1, (1, 2)), (1, (4, 1, 2)), (1, (3, 4, 1)),
        (1, (True,)), (1, (3, True)), (1, (False,)), (1, (None,)), (1, (3, None)), (1, ("3",)), (1, ((3,),)),
        (1, ([3],)), (1, ({3: 1},)), (1, (3, [1])), (1, ((),)), (1, ([],)), (1, ({},)), (1, (3, {})),
    ]


class LevelCovers(unittest.TestCase):

    def check(self, base, goal, answer, **more):
        with self.subTest(base=base, goal=goal, **more):
            self.assertEqual(level_cover(base, goal, **more), answer)

    def test_example(self):
        self.check(BASE, GOAL, [(1, (3, 1)), (1, (4, 2)), (4, (2,))], weights={2: 5})

    def test_without_weights(self):
        self.check(BASE, GOAL, [(1, (3, 1)), (1, (4, 2))])
        self.check(BASE, GOAL, [(1, (3, 1)), (1, (4, 2))], weights=None)
        self.check(BASE, GOAL, [(1, (3, 1)), (1, (4, 2))], weights={})
        self.check([1, 2, 3], [3, 2, 1], [(1, (3, 2, 1))])
        self.check([3, 1, 2], [3, 1, 2], [(1, (3,)), (1, (1,)), (1, (2,))])

    def test_empty_orders(self):
        self.check([], [], [])
        self.check([], [], [], weights={1: 4})

    def test_levels_with_the_same_ids_make_one_run(self):
        self.check([1, 2], [2, 1], [(5, (2, 1))], weights={1: 5, 2: 5})
        self.check([1, 2], [2, 1], [(3, (2, 1)), (4, (1,))], weights={1: 7, 2: 3})
        self.check([1, 2], [2, 1], [(3, (2, 1)), (4, (2,))], weights={1: 3, 2: 7})
        self.check([1, 2], [1, 2], [(3, (1,)), (7, (2,))], weights={1: 3, 2: 7})

    def test_the_levels_reach_down_from_the_top_level(self):
        # The top level of 3 is 6 by the id 1, so its level is 6 alone, while 2 has the first level.
        self.check([2, 1, 3], [1, 2, 3], [(1, (1, 2)), (4, (1,)), (1, (3,))], weights={1: 5})
        self.check([1, 2, 3], [2, 1, 3], [(1, (2, 1)), (4, (1,)), (2, (3,))], weights={1: 5, 3: 2})

    def test_weights_of_great_size(self):
        self.check([1, 2], [2, 1], [(HUGE, (2, 1))], weights={1: HUGE, 2: HUGE})
        self.check([1, 2], [2, 1], [(1, (2, 1)), (HUGE - 1, (1,))], weights={1: HUGE})
        self.check([1, 2, 3], [1, 3, 2], [(HUGE, (1,)), (1, (3, 2)), (HUGE - 2, (3,))], weights={1: HUGE, 3: HUGE - 1})

    def test_weights_of_ids_that_are_in_no_order_do_not_matter(self):
        self.check(BASE, GOAL, [(1, (3, 1)), (1, (4, 2)), (4, (2,))], weights={2: 5, 9: 3, 10 ** 6: HUGE})

    def test_all_short_orders_level_by_level(self):
        for many in range(6):
            base = list(range(1, many + 1))
            for goal in permutations(base):
                self.check(base, list(goal), cover_by_levels(base, list(goal)))

    def test_short_orders_with_weights_level_by_level(self):
        base = [4, 2, 1, 3]
        for goal in permutations(base):
            for weights in some_weights(base, (2, 5)):
                self.check(base, list(goal), cover_by_levels(base, list(goal), weights), weights=weights)

    def test_longer_orders_level_by_level(self):
        random = Random(3)
        for _ in range(60):
            base = random.sample(range(1, 50), random.randrange(5, 9))
            goal = random.sample(base, len(base))
            weights = {row_id: random.randint(1, 9) for row_id in random.sample(base, len(base) // 2)}
            self.check(base, goal, cover_by_levels(base, goal, weights), weights=weights)

    def test_it_is_a_complete_cover_of_the_size_of_the_best_straight_set(self):
        random = Random(4)
        for many in (1, 2, 10, 50, 300):
            for wide in (1, 3, HUGE):
                base = random.sample(range(1, 10 ** 6), many)
                goal = random.sample(base, many)
                weights = {row_id: random.randint(1, wide) for row_id in base[many // 3:]}
                cover = level_cover(base, goal, weights=weights)
                self.assertIs(is_cover(base, goal, cover, weights=weights), True)
                self.assertEqual(size(cover), weight(best_straight(base, goal, weights=weights), weights))

    def test_the_kinds_of_its_parts(self):
        cover = level_cover(BASE, GOAL, weights={2: 5})
        self.assertIs(type(cover), list)
        for run in cover:
            self.assertEqual([type(run), type(run[0]), type(run[1])], [tuple, int, tuple])

    def test_what_is_returned_is_new(self):
        cover = level_cover(BASE, GOAL)
        cover.clear()
        self.check(BASE, GOAL, [(1, (3, 1)), (1, (4, 2))])

    def test_the_arguments_stay_as_they_are(self):
        base, goal, weights = list(BASE), list(GOAL), {2: 5, 9: 1}
        level_cover(base, goal, weights=weights)
        self.assertEqual((base, goal, weights), (BASE, GOAL, {2: 5, 9: 1}))

    def test_arguments_by_name(self):
        self.assertEqual(level_cover(weights={1: 2}, goal=[2, 1], base=[1, 2]), [(1, (2, 1)), (1, (1,))])


class ExactWeights(unittest.TestCase):

    def check(self, goal, answer, **more):
        with self.subTest(goal=goal, **more):
            self.assertEqual(exact_weights(goal, **more), answer)

    def test_by_hand(self):
        # (w * (n + 1) + f) * 2**n + 2**(n - 1 - p)
        self.check([7], {7: 2 * 2 + 1})
        self.check([7], {7: 3 * 2 + 1}, favoured=[7])
        self.check([5, 2], {5: 3 * 4 + 2, 2: 3 * 4 + 1})
        self.check([5, 2], {5: 15 * 4 + 2, 2: 4 * 4 + 1}, weights={5: 5}, favoured=(2,))
        self.check([5, 2], {5: 16 * 4 + 2, 2: 3 * 4 + 1}, weights={5: 5}, favoured=[5, 5])

    def test_empty_order(self):
        self.check([], {})
        self.check([], {}, weights={1: 2}, favoured=[1])

    def test_ids_that_are_not_in_the_goal_do_not_matter(self):
        self.check([5, 2], {5: 14, 2: 13}, weights={9: HUGE}, favoured=[9, 8, 1])

    def test_the_formula(self):
        random = Random(8)
        for many in (3, 10, 300):
            goal = random.sample(range(1, 10 ** 6), many)
            weights = {row_id: random.choice((2, HUGE)) for row_id in goal[::3]}
            favoured = goal[::2]
            answer = {}
            for place, row_id in enumerate(goal):
                first = weights.get(row_id, 1) * (many + 1) + (1 if row_id in favoured else 0)
                answer[row_id] = first * 2 ** many + 2 ** (many - 1 - place)
            self.check(goal, answer, weights=weights, favoured=favoured)
            self.check(goal, answer, weights=weights, favoured=tuple(favoured))

    def test_the_best_set_is_the_only_one_of_greatest_exact_weight(self):
        base = [1, 2, 3, 4, 5]
        for goal in permutations(base):
            goal = list(goal)
            for weights, favoured in ((None, ()), ({4: 2}, (1, 2)), ({1: 2, 5: 3}, [3, 5, 4])):
                exact = exact_weights(goal, weights=weights, favoured=favoured)
                sums = sorted(weight(ids, exact) for ids in straight_sets(base, goal))
                best = best_by_search(base, goal, weights, favoured)
                self.assertEqual(sums[-1], weight(best, exact))
                self.assertLess(sums[-2], sums[-1])

    def test_the_arguments_stay_as_they_are(self):
        goal, weights, favoured = [5, 2], {5: 5, 9: 1}, [2, 9]
        result = exact_weights(goal, weights=weights, favoured=favoured)
        result.clear()
        self.assertEqual((goal, weights, favoured), ([5, 2], {5: 5, 9: 1}, [2, 9]))

    def test_what_is_returned_is_new(self):
        weights = {5: 5, 2: 2}
        exact_weights([5, 2], weights=weights).clear()
        self.assertEqual(weights, {5: 5, 2: 2})

    def test_arguments_by_name(self):
        self.assertEqual(exact_weights(favoured=[7], weights={7: 2}, goal=[7]), {7: 5 * 2 + 1})


class Covers(unittest.TestCase):

    def check(self, base, goal, cover, answer, **more):
        with self.subTest(base=base, goal=goal, cover=cover, **more):
            self.assertIs(is_cover(base, goal, cover, **more), answer)

    def test_complete_covers(self):
        self.check(BASE, GOAL, [(1, (3, 1)), (1, (4, 2))], True)
        self.check(BASE, GOAL, [(1, (4, 2)), (1, (3, 1))], True)
        self.check(BASE, GOAL, [(1, (3, 2)), (1, (4, 1))], True)
        self.check(BASE, GOAL, [(1, (3,)), (1, (4,)), (1, (1,)), (1, (2,))], True)

    def test_more_than_is_needed(self):
        self.check(BASE, GOAL, [(3, (3, 1)), (HUGE, (4, 2))], True)
        self.check(BASE, GOAL, [(1, (3, 1)), (1, (4, 2)), (1, (3, 1)), (2, (4, 1))], True)

    def test_an_id_in_no_run(self):
        self.check(BASE, GOAL, [(1, (3, 1))], False)
        self.check(BASE, GOAL, [(1, (3, 1)), (1, (4,))], False)
        self.check(BASE, GOAL, [(1, (3,)), (1, (4, 2))], False)
        self.check(BASE, GOAL, [(HUGE, (3, 1)), (HUGE, (2,))], False)
        self.check(BASE, GOAL, [], False)

    def test_empty_orders(self):
        self.check([], [], [], True)
        self.check([], [], [], True, weights={1: 2})
        self.check([], [], [(1, ())], False)
        self.check([], [], [(1, (1,))], False)
        self.check([], [], [()], False)

    def test_the_times_add_up_to_the_weight(self):
        for times, answer in ((1, False), (2, False), (3, True), (4, True), (HUGE, True)):
            self.check([1, 2], [2, 1], [(times, (2, 1))], answer, weights={2: 3})
            self.check([1, 2], [2, 1], [(times, (2, 1))], answer, weights={1: 3, 2: 2})
            self.check([1, 2], [2, 1], [(1, (1,)), (times, (2,))], answer, weights={2: 3})
        self.check([1, 2], [2, 1], [(2, (2, 1)), (1, (2,))], True, weights={2: 3})
        self.check([1, 2], [2, 1], [(2, (2, 1)), (1, (1,))], False, weights={2: 3})
        self.check([1, 2], [2, 1], [(1, (2, 1)), (1, (2,)), (1, (2,))], True, weights={2: 3})

    def test_weights_of_great_size(self):
        for weights in ({1: HUGE}, {2: HUGE}, {1: HUGE, 2: HUGE}):
            self.check([1, 2], [2, 1], [(HUGE, (2, 1))], True, weights=weights)
            self.check([1, 2], [2, 1], [(HUGE - 1, (2, 1))], False, weights=weights)
        self.check([1, 2], [2, 1], [(HUGE ** 3, (2, 1))], True, weights={1: HUGE ** 3})
        self.check([1, 2], [2, 1], [(HUGE ** 3 - 1, (2, 1))], False, weights={1: HUGE ** 3})

    def test_weights_of_ids_that_are_in_no_order_do_not_matter(self):
        self.check([1, 2], [2, 1], [(1, (2, 1))], True, weights={9: HUGE})

    def test_no_weights(self):
        self.check([1, 2], [2, 1], [(1, (2, 1))], True, weights=None)
        self.check([1, 2], [2, 1], [(1, (2, 1))], True, weights={})

    def test_every_tuple_of_ids_as_a_run(self):
        base, goal = [1, 2, 3], [3, 1, 2]
        for many in range(1, 4):
            for ids in permutations([1, 2, 3, 4], many):
                right = ids in ((1,), (2,), (3,), (3, 1), (3, 2))
                self.check(base, goal, [(1, (1,)), (1, (2,)), (1, (3,)), (1, ids)], right)

    def test_wrong_runs_in_every_place(self):
        for wrong in wrong_runs():
            for place in range(3):
                cover = [(1, (3, 1)), (1, (4, 2))]
                cover.insert(place, wrong)
                self.check(BASE, GOAL, cover, False)

    def test_any_values_in_every_place(self):
        for value in any_values():
            for wrong in (value, (value, (3, 1)), (1, value), (1, (3, value))):
                right = wrong in ((7, (3, 1)), (1, (3, 1)), (10 ** 6, (3, 1)), (10 ** 60 - 1, (3, 1)))
                right = right and value is not True and wrong[1][1] is not True
                for place in range(3):
                    cover = [(1, (3, 1)), (1, (4, 2))]
                    cover.insert(place, wrong)
                    self.check(BASE, GOAL, cover, right)

    def test_the_arguments_stay_as_they_are(self):
        for wrong in wrong_runs() + any_values() + [(1, (3, 1))]:
            base, goal, cover, weights = list(BASE), list(GOAL), [(1, (3, 1)), (1, (4, 2)), wrong], {3: 1}
            same = deepcopy(cover)
            is_cover(base, goal, cover, weights=weights)
            self.assertEqual((base, goal, cover, weights), (BASE, GOAL, same, {3: 1}))

    def test_arguments_by_name(self):
        self.assertIs(is_cover(weights={1: 2}, cover=[(2, (2, 1))], goal=[2, 1], base=[1, 2]), True)
        self.assertIs(is_cover(weights={1: 2}, cover=[(1, (2, 1))], goal=[2, 1], base=[1, 2]), False)


class BestSets(unittest.TestCase):

    def setUp(self):
        self.cover = level_cover(BASE, GOAL, weights=exact_weights(GOAL))

    def check(self, base, goal, ids, cover, answer, **more):
        with self.subTest(base=base, goal=goal, ids=ids, cover=cover, **more):
            self.assertIs(is_best(base, goal, ids, cover, **more), answer)

    def test_only_the_best_straight_set(self):
        base = [1, 2, 3, 4]
        for goal in permutations(base):
            goal = list(goal)
            for weights, favoured in ((None, ()), (None, [1, 2]), ({2: 3}, (4,)), ({1: HUGE, 4: 2}, [3])):
                exact = exact_weights(goal, weights=weights, favoured=favoured)
                cover = level_cover(base, goal, weights=exact)
                best = best_by_search(base, goal, weights, favoured)
                for many in range(5):
                    for ids in combinations(goal, many):
                        right = list(ids) == best
                        self.check(base, goal, list(ids), cover, right, weights=weights, favoured=favoured)

    def test_empty_orders(self):
        self.check([], [], [], [], True)
        self.check([], [], [], [(1, ())], False)
        self.check([], [], [1], [], False)

    def test_the_sequence_is_that_of_the_goal(self):
        self.check(BASE, GOAL, [3, 4], self.cover, True)
        self.check(BASE, GOAL, [4, 3], self.cover, False)

    def test_ids_that_are_no_straight_set(self):
        # [2, 1] weighs as much as the cover's size, but the base has it the other way round.
        cover = [(1, (2,)), (1, (1,))]
        exact = exact_weights([2, 1])
        self.check([1, 2], [2, 1], [2, 1], [(exact[2], (2,)), (exact[1], (1,))], False)
        self.check([1, 2], [2, 1], [1, 2], [(exact[2], (2,)), (exact[1], (1,))], False)
        self.check([1, 2], [2, 1], [2, 1], cover, False)

    def test_any_values_as_ids(self):
        wrong = [True, False, None, 0, 5, -3, "3", (3,), [3], {3: 3}, HUGE, (), [], {}]
        for value in wrong + any_values():
            self.check(BASE, GOAL, [value], self.cover, False)
            self.check(BASE, GOAL, [3, 4, value], self.cover, False)
            self.check(BASE, GOAL, [value, 3, 4], self.cover, False)
            self.check(BASE, GOAL, [3, value], self.cover, False)

    def test_ids_twice(self):
        for ids in ([3, 3, 4], [3, 4, 4], [3, 4, 3], [3, 3]):
            self.check(BASE, GOAL, ids, self.cover, False)

    def test_true_is_not_the_id_1(self):
        cover = level_cover([1, 2], [1, 2], weights=exact_weights([1, 2]))
        self.check([1, 2], [1, 2], [1, 2], cover, True)
        self.check([1, 2], [1, 2], [True, 2], cover, False)

    def test_a_cover_for_other_weights(self):
        self.check(BASE, GOAL, [3, 4], level_cover(BASE, GOAL), False)
        self.check(BASE, GOAL, [3, 4], self.cover, False, weights={3: 2})
        self.check(BASE, GOAL, [1, 2], self.cover, False, favoured=[1])
        self.check(BASE, GOAL, [3, 4], self.cover, False, favoured=[1])
        exact = exact_weights(GOAL, favoured=[1])
        self.check(BASE, GOAL, [1, 2], level_cover(BASE, GOAL, weights=exact), True, favoured=[1])
        self.check(BASE, GOAL, [1, 2], level_cover(BASE, GOAL, weights=exact), False)

    def test_favoured_as_a_list_and_as_a_tuple(self):
        cover = level_cover(BASE, GOAL, weights=exact_weights(GOAL, favoured=[1, 3, 2]))
        for favoured in ([1, 3, 2], (2, 1, 3), (1, 2, 3, 9, 9)):
            self.check(BASE, GOAL, [1, 2], cover, True, favoured=favoured)

    def test_a_cover_that_is_too_great(self):
        self.check(BASE, GOAL, [3, 4], self.cover + [(1, (3,))], False)
        self.check(BASE, GOAL, [3, 4], [(self.cover[0][0] + 1, self.cover[0][1])] + self.cover[1:], False)

    def test_a_cover_that_is_not_complete(self):
        for place, (times, ids) in enumerate(self.cover):
            before, after = self.cover[:place], self.cover[place + 1:]
            self.check(BASE, GOAL, [3, 4], before + after, False)
            self.check(BASE, GOAL, [3, 4], before + [(times, ids[:1])] + after, len(ids) == 1)
        # The size is right, but 1 and 2 are in no run.
        exact = exact_weights(GOAL)
        self.check(BASE, GOAL, [3, 4], [(exact[3], (3,)), (exact[4], (4,))], False)
        # The size is right, and the cover is complete for weights of 1.
        for ids in ([3, 4], [1, 2], [4], []):
            times = weight(ids, exact) - 1
            self.check(BASE, GOAL, ids, [(times, (3, 1)), (1, (4, 2))], False)

    def test_the_cover_may_be_another_one_of_the_same_size(self):
        self.check(BASE, GOAL, [3, 4], self.cover[::-1], True)
        times, ids = self.cover[0]
        self.check(BASE, GOAL, [3, 4], [(1, ids), (times - 1, ids)] + self.cover[1:], True)

    def test_wrong_runs_in_every_place(self):
        for wrong in wrong_runs() + any_values():
            for place in range(len(self.cover) + 1):
                cover = list(self.cover)
                cover.insert(place, wrong)
                self.check(BASE, GOAL, [3, 4], cover, False)

    def test_the_arguments_stay_as_they_are(self):
        base, goal, ids, cover, weights, favoured = list(BASE), list(GOAL), [3, 4], list(self.cover), {9: 2}, [9]
        is_best(base, goal, ids, cover, weights=weights, favoured=favoured)
        self.assertEqual((base, goal, ids, cover), (BASE, GOAL, [3, 4], self.cover))
        self.assertEqual((weights, favoured), ({9: 2}, [9]))

    def test_arguments_by_name(self):
        cover = level_cover([1, 2], [2, 1], weights=exact_weights([2, 1], weights={1: 2}, favoured=(2,)))
        more = {"base": [1, 2], "goal": [2, 1], "cover": cover, "weights": {1: 2}, "favoured": (2,)}
        self.assertIs(is_best(ids=[1], **more), True)
        self.assertIs(is_best(ids=[2], **more), False)


class LeastPins(unittest.TestCase):

    def check(self, base, goal, pins, cover, answer, **more):
        with self.subTest(base=base, goal=goal, pins=pins, cover=cover, **more):
            self.assertIs(is_least(base, goal, pins, cover, **more), answer)

    def test_all_pins_of_short_orders(self):
        for many in range(4):
            base = list(range(1, many + 1))
            for goal in permutations(base):
                goal = list(goal)
                for weights in (None, {}, {2: 3}, {1: 2, 3: HUGE}):
                    cover = level_cover(base, goal, weights=weights)
                    least = weight(base, weights) - size(cover)
                    for pins in all_pins(base):
                        right = lay(base, pins) == goal and weight(pins, weights) == least
                        self.check(base, goal, pins, cover, right, weights=weights)

    def test_the_least_pins_with_any_favoured_ids(self):
        cover = level_cover(BASE, GOAL)
        for favoured in ((), [1], [2], [3], [1, 2, 3]):
            self.check(BASE, GOAL, least_pins(BASE, GOAL, favoured=favoured), cover, True)

    def test_any_dict_as_pins(self):
        cover = level_cover(BASE, GOAL)
        self.check(BASE, GOAL, {1: 4, 2: 1}, cover, True)
        for pins in ({}, {1: 4}, {2: 1}, {2: 4, 1: 2}, {1: 2, 2: 1}, {1: 1, 2: 1}, {3: 4, 4: 0}, {3: 0},
                     {1: 4, 2: True}, {True: 4, 2: 1}, {1: "4", 2: 1}, {"1": 4, 2: 1}, {1: 4, 2: [1]}, {1: 4, 2: {}},
                     {1: 4, 2: (1,)}, {(1,): 4, 2: 1}, {1: 4, 2: None}, {None: 4, 2: 1}, {1: 4, 2: 1, 5: 4},
                     {1: 4, 2: 5}, {1: 4, 2: 1, 0: 0}, {1: 4, 2: 1, 3: 0}, {1: 4, 2: 1, 4: 3}, {3: False, 4: 3},
                     {1: 4, 2: 1, "": ""}, {1: 4, 2: 1, 10 ** 59: 0}):
            self.check(BASE, GOAL, pins, cover, False)
        for pins in ({1: 4, 2: 4}, {3: 0, 4: 3}, {3: 0, 4: 0}):
            self.check(BASE, GOAL, pins, cover, True)
        for value in any_values():
            self.check(BASE, GOAL, {1: 4, 2: value}, cover, value == 1 and value is not True)

    def test_the_cover_shows_it(self):
        pins = {1: 4, 2: 1}
        self.check(BASE, GOAL, pins, [(1, (4, 2)), (1, (3, 1))], True)
        self.check(BASE, GOAL, pins, [(1, (3, 2)), (1, (4, 1))], True)
        for cover in ([], [(1, (3, 1))], [(2, (3, 1))], [(1, (3, 1)), (1, (4,))], [(1, (3,)), (1, (4,))],
                      [(1, (3, 1)), (1, (4, 2)), (1, (2,))], [(1, (3, 1)), (2, (4, 2))],
                      [(1, (3,)), (1, (4,)), (1, (1,)), (1, (2,))], [(1, (3, 4)), (1, (1, 2))]):
            self.check(BASE, GOAL, pins, cover, False)

    def test_weights(self):
        cover = level_cover(BASE, GOAL, weights={2: 5})
        self.check(BASE, GOAL, {3: 0, 4: 3}, cover, True, weights={2: 5})
        self.check(BASE, GOAL, {1: 4, 2: 1}, cover, False, weights={2: 5})
        self.check(BASE, GOAL, {3: 0, 4: 3}, cover, True, weights={2: 5, 9: HUGE})
        self.check(BASE, GOAL, {3: 0, 4: 3}, cover, False)
        self.check(BASE, GOAL, {3: 0, 4: 3}, cover, False, weights={2: 4})
        self.check(BASE, GOAL, {3: 0, 4: 3}, cover, False, weights={2: 6})
        # The size is right, and the cover is complete for weights of 1.
        self.check(BASE, GOAL, {1: 4, 2: 1}, [(1, (3, 1)), (1, (4, 2))], False, weights={2: 5})

    def test_needless_pins(self):
        self.check([1, 2], [1, 2], {}, [(1, (1,)), (1, (2,))], True)
        self.check([1, 2], [1, 2], {2: 1}, [(1, (1,)), (1, (2,))], False)
        self.check([1, 2], [1, 2], {1: 0}, [(1, (1,)), (1, (2,))], False)

    def test_empty_orders(self):
        self.check([], [], {}, [], True)
        self.check([], [], {1: 0}, [], False)
        self.check([], [], {}, [(1, ())], False)

    def test_wrong_runs_in_every_place(self):
        for wrong in wrong_runs() + any_values():
            for place in range(3):
                cover = [(1, (3, 1)), (1, (4, 2))]
                cover.insert(place, wrong)
                self.check(BASE, GOAL, {1: 4, 2: 1}, cover, False)

    def test_long_orders(self):
        random = Random(9)
        base = random.sample(range(1, 10 ** 6), 300)
        for wide in (1, HUGE):
            goal = random.sample(base, 300)
            weights = {row_id: random.randint(1, wide) for row_id in base}
            cover = level_cover(base, goal, weights=weights)
            pins = least_pins(base, goal, weights=weights, favoured=base[:50])
            self.check(base, goal, pins, cover, True, weights=weights)
            pins[goal[0]] = 0
            self.check(base, goal, pins, cover, pins == least_pins(base, goal, weights=weights), weights=weights)

    def test_the_arguments_stay_as_they_are(self):
        base, goal, pins, cover, weights = list(BASE), list(GOAL), {1: 4, 2: 1}, [(1, (3, 1)), (1, (4, 2))], {9: 2}
        is_least(base, goal, pins, cover, weights=weights)
        self.assertEqual((base, goal, pins), (BASE, GOAL, {1: 4, 2: 1}))
        self.assertEqual((cover, weights), ([(1, (3, 1)), (1, (4, 2))], {9: 2}))

    def test_arguments_by_name(self):
        more = {"goal": [2, 1], "base": [1, 2], "weights": {1: 2}, "cover": [(1, (2, 1)), (1, (1,))]}
        self.assertIs(is_least(pins={2: 0}, **more), True)
        self.assertIs(is_least(pins={1: 2}, **more), False)


class Definitions(unittest.TestCase):

    def test_functions_are_defined_in_their_file(self):
        for name in ("level_cover", "exact_weights", "is_best", "is_cover", "is_least"):
            self.assertEqual(getattr(covers, name).__module__, "handsorted.covers")


if __name__ == "__main__":
    unittest.main()
