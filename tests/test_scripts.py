"""Tests of handsorted.scripts: scripts of moves, the least ones, and their weight."""

import unittest
from copy import deepcopy
from itertools import permutations, product
from random import Random

from handsorted import scripts
from handsorted.covers import is_cover, level_cover
from handsorted.orders import do_moves
from handsorted.scripts import is_least_script, is_script, least_script, script_weight
from handsorted.straight import best_straight
from tests.samples import any_values
from tests.words import best_by_search, some_weights, weight

HUGE = 10 ** 59
TOP_ID = 10 ** 6


def script_by_search(first, second, weights=None):
    """Return the moves of the least script, by the document's words."""
    best = best_by_search(first, second, weights)
    return [((row_id,), before) for before, row_id in zip([0, *second], second) if row_id not in best]


class LeastScripts(unittest.TestCase):

    def check(self, first, second, answer, **more):
        with self.subTest(first=first, second=second, **more):
            moves = list(least_script(first, second, **more))
            self.assertEqual(moves, answer)
            self.assertEqual(do_moves(first, *moves), second)

    def test_example(self):
        self.check([1, 2, 3, 4], [3, 4, 1, 2], [((1,), 4), ((2,), 1)])

    def test_to_the_top(self):
        self.check([1, 2, 3], [3, 1, 2], [((3,), 0)])
        self.check([1, 2, 3, 4], [4, 3, 1, 2], [((4,), 0), ((3,), 4)])

    def test_weights(self):
        self.check([1, 2, 3, 4], [3, 4, 1, 2], [((3,), 0), ((4,), 3)], weights={2: 5})
        self.check([1, 2, 3, 4], [3, 4, 1, 2], [((1,), 4), ((2,), 1)], weights={2: HUGE, 4: HUGE})
        self.check([1, 2, 3, 4], [3, 4, 1, 2], [((3,), 0), ((4,), 3)], weights={2: HUGE + 1, 4: HUGE})
        self.check([1, 2, 3, 4], [4, 1, 2, 3], [((1,), 4), ((2,), 1), ((3,), 2)], weights={4: HUGE, 9: 2})
        self.check([1, 2, 3, 4], [3, 4, 1, 2], [((1,), 4), ((2,), 1)], weights=None)

    def test_equal_and_empty_orders(self):
        for order in ([], [7], [3, 1, 2], list(range(1, 301))):
            self.check(order, list(order), [])
            self.check(order, order, [], weights={1: HUGE})

    def test_all_short_orders(self):
        for many in range(6):
            first = list(range(1, many + 1))
            for second in permutations(first):
                self.check(first, list(second), script_by_search(first, list(second)))

    def test_short_orders_with_weights(self):
        first = [4, 2, 1, 3]
        for second in permutations(first):
            for weights in some_weights(first, (2, HUGE)):
                self.check(first, list(second), script_by_search(first, list(second), weights), weights=weights)

    def test_long_orders(self):
        random = Random(3)
        first = random.sample(range(1, TOP_ID), 300)
        for wide in (1, 5, HUGE):
            second = random.sample(first, 300)
            weights = {row_id: random.randint(1, wide) for row_id in first}
            moves = list(least_script(first, second, weights=weights))
            self.assertEqual(do_moves(first, *moves), second)
            rest = [row_id for row_id in first if row_id not in best_straight(first, second, weights=weights)]
            self.assertEqual(script_weight(*moves, weights=weights), weight(rest, weights))
            cover = level_cover(first, second, weights=weights)
            self.assertIs(is_least_script(first, second, moves, cover, weights=weights), True)

    def test_no_script_weighs_less(self):
        first = [1, 2, 3]
        moves = [((a,), b) for a in first for b in [0, *first] if a != b]
        for weights in (None, {2: 3}, {1: 2, 3: 4}):
            least = {}
            for many in range(4):
                for some in product(moves, repeat=many):
                    reached = tuple(do_moves(first, *some))
                    cost = script_weight(*some, weights=weights)
                    least[reached] = min(cost, least.get(reached, cost))
            self.assertEqual(len(least), 6)
            for second, cost in least.items():
                script = list(least_script(first, list(second), weights=weights))
                self.assertEqual(script_weight(*script, weights=weights), cost)

    def test_the_kinds_of_the_moves(self):
        for move in least_script([1, 2, 3], [3, 2, 1]):
            self.assertEqual([type(move), type(move[0]), type(move[1])], [tuple, tuple, int])

    def test_one_move_is_yielded_at_a_time(self):
        moves = least_script([1, 2, 3, 4], [3, 4, 1, 2])
        self.assertIs(iter(moves), moves)
        self.assertEqual([next(moves), next(moves)], [((1,), 4), ((2,), 1)])
        with self.assertRaises(StopIteration):
            next(moves)

    def test_things_are_as_when_the_first_move_is_asked_for(self):
        first, second, weights = [1, 2], [1, 2], {}
        moves = least_script(first, second, weights=weights)
        first[:], second[:] = [1, 2, 3, 4], [3, 4, 1, 2]
        weights[2] = 5
        found = [next(moves)]
        first.clear()
        second.reverse()
        weights.clear()
        self.assertEqual(found + list(moves), [((3,), 0), ((4,), 3)])

    def test_the_arguments_stay_as_they_are(self):
        first, second, weights = [1, 2, 3, 4], [3, 4, 1, 2], {2: 5}
        list(least_script(first, second, weights=weights))
        self.assertEqual((first, second, weights), ([1, 2, 3, 4], [3, 4, 1, 2], {2: 5}))

    def test_arguments_by_name(self):
        self.assertEqual(list(least_script(weights={1: 2}, second=[2, 1], first=[1, 2])), [((2,), 0)])


class Weights(unittest.TestCase):

    def test_no_moves(self):
        self.assertEqual(script_weight(), 0)
        self.assertEqual(script_weight(weights={1: 5}), 0)
        self.assertEqual(script_weight(weights=None), 0)

    def test_without_weights(self):
        self.assertEqual(script_weight(((1,), 0)), 1)
        self.assertEqual(script_weight(((1, 2, 3), 0), ((4,), 2)), 4)

    def test_ids_several_times(self):
        self.assertEqual(script_weight(((1,), 0), ((1,), 2), ((2, 1), 3)), 4)
        self.assertEqual(script_weight(((1,), 0), ((1,), 2), ((2, 1), 3), weights={1: 10}), 31)
        self.assertEqual(script_weight(((1,), 0), ((1,), 0), weights={1: HUGE}), 2 * HUGE)

    def test_weights(self):
        moves = [((1, 2), 3), ((4,), 0)]
        self.assertEqual(script_weight(*moves, weights={}), 3)
        self.assertEqual(script_weight(*moves, weights={2: 7}), 9)
        self.assertEqual(script_weight(*moves, weights={1: 2, 2: 7, 4: HUGE}), 9 + HUGE)

    def test_the_id_behind_which_others_go_does_not_count(self):
        self.assertEqual(script_weight(((1,), 2), weights={2: 100}), 1)
        self.assertEqual(script_weight(((1,), 0), weights={9: 100}), 1)

    def test_the_arguments_stay_as_they_are(self):
        move, weights = ((1, 2), 3), {1: 2}
        script_weight(move, weights=weights)
        self.assertEqual((move, weights), (((1, 2), 3), {1: 2}))


def no_moves():
    """Return new values that are no moves of [1, 2, 3, 4]."""
    return [
        (), ((1,),), ((1,), 0, 0), [(1,), 0], ([1], 0), ({1: 1}, 0), (1, 0), ("1", 0), ((), 0), {(1,): 0},
        ((5,), 0), ((0,), 0), ((1,), 5), ((1,), 1), ((1, 1), 0), ((1, 2), 2), ((1, 5), 0), ((-1,), 0),
        ((True,), 0), ((1,), False), ((2,), True), ((2, True), 0), ((None,), 0), ((1,), None), ((1,), "2"),
        (([1],), 0), (({},), 0), ((1,), [2]), ((1,), (2,)), ((HUGE,), 0), ((1,), HUGE),
    ]


class Scripts(unittest.TestCase):

    def check(self, first, second, moves, answer):
        with self.subTest(first=first, second=second, moves=moves):
            self.assertIs(is_script(first, second, moves), answer)

    def test_scripts(self):
        self.check([1, 2, 3, 4], [3, 4, 1, 2], [((1,), 4), ((2,), 1)], True)
        self.check([1, 2, 3, 4], [3, 4, 1, 2], [((1, 2), 4)], True)
        self.check([1, 2, 3, 4], [3, 4, 1, 2], [((3, 4), 0)], True)
        self.check([1, 2, 3, 4], [3, 4, 1, 2], [((3, 4, 1, 2), 0)], True)
        self.check([1, 2, 3, 4], [3, 4, 1, 2], [((4,), 0), ((2,), 0), ((1,), 0), ((3, 4), 0)], True)

    def test_moves_that_lead_elsewhere(self):
        for moves in ([], [((1,), 4)], [((2,), 1), ((1,), 4)], [((4, 3), 0)], [((3, 4), 1)]):
            self.check([1, 2, 3, 4], [3, 4, 1, 2], moves, False)

    def test_equal_orders(self):
        self.check([1, 2], [1, 2], [], True)
        self.check([1, 2], [1, 2], [((1,), 0)], True)
        self.check([1, 2], [1, 2], [((1,), 2), ((1,), 0)], True)
        self.check([1, 2], [1, 2], [((1,), 2)], False)

    def test_empty_orders(self):
        self.check([], [], [], True)
        self.check([], [], [((1,), 0)], False)
        self.check([], [], [((), 0)], False)

    def test_all_single_moves(self):
        first = [3, 1, 2]
        for second in permutations(first):
            for many in range(1, 4):
                for ids in permutations(first, many):
                    for behind in [0, 1, 2, 3]:
                        if behind not in ids:
                            reached = do_moves(first, (ids, behind))
                            self.check(first, list(second), [(ids, behind)], reached == list(second))

    def test_what_is_no_move_in_every_place(self):
        for wrong in no_moves() + any_values():
            for place in range(3):
                moves = [((1,), 4), ((2,), 1)]
                moves.insert(place, wrong)
                self.check([1, 2, 3, 4], [3, 4, 1, 2], moves, False)
            self.check([1, 2, 3, 4], [1, 2, 3, 4], [wrong], False)

    def test_any_values(self):
        for value in any_values():
            for moves in ([value], [(value, 0)], [((value,), 2)], [((3,), value)], [value, value]):
                usual = value in (0, 1) and not isinstance(value, bool) and moves[0] != value
                if not usual:
                    self.check([3, 1, 2], [3, 1, 2], moves, False)

    def test_the_arguments_stay_as_they_are(self):
        for wrong in no_moves() + any_values():
            first, second, moves = [1, 2, 3, 4], [3, 4, 1, 2], [((1,), 4), wrong]
            same = deepcopy(moves)
            is_script(first, second, moves)
            self.assertEqual((first, second, moves), ([1, 2, 3, 4], [3, 4, 1, 2], same))

    def test_arguments_by_name(self):
        self.assertIs(is_script(moves=[((1,), 2)], second=[2, 1], first=[1, 2]), True)
        self.assertIs(is_script(moves=[((1,), 2)], first=[2, 1], second=[1, 2]), False)


class LeastScriptsShown(unittest.TestCase):

    FIRST, SECOND, MOVES = [1, 2, 3, 4], [3, 4, 1, 2], [((1,), 4), ((2,), 1)]
    COVER = [(1, (3, 1)), (1, (4, 2))]

    def check(self, first, second, moves, cover, answer, **more):
        with self.subTest(first=first, second=second, moves=moves, cover=cover, **more):
            self.assertIs(is_least_script(first, second, moves, cover, **more), answer)

    def test_least_scripts(self):
        for moves in (self.MOVES, [((1, 2), 4)], [((3, 4), 0)], [((3,), 0), ((4,), 3)], [((4,), 0), ((3,), 0)]):
            self.check(self.FIRST, self.SECOND, moves, self.COVER, True)

    def test_scripts_that_are_not_the_least(self):
        for moves in ([((1, 2, 3), 4), ((3,), 0)], [((3, 4, 1, 2), 0)], [((3, 4, 1), 0)], self.MOVES + [((3,), 0)]):
            self.assertIs(is_script(self.FIRST, self.SECOND, moves), True)
            self.check(self.FIRST, self.SECOND, moves, self.COVER, False)

    def test_what_is_no_script(self):
        for moves in ([], [((1,), 4)], [((2,), 1), ((1,), 4)], [((4, 3), 0)]):
            self.check(self.FIRST, self.SECOND, moves, self.COVER, False)
        # Moves whose weight is right.
        self.check(self.FIRST, self.SECOND, [((3, 1), 0)], self.COVER, False)

    def test_the_cover_shows_it(self):
        self.check(self.FIRST, self.SECOND, self.MOVES, [(1, (4, 1)), (1, (3, 2))], True)
        for cover in ([], [(1, (3, 1))], [(2, (3, 1))], [(1, (3,)), (1, (4,))], [(1, (3, 1)), (1, (4, 2)), (1, (2,))],
                      [(1, (3, 1)), (2, (4, 2))], [(1, (1, 3)), (1, (2, 4))], [(1, (3, 4)), (1, (1, 2))],
                      [[1, (3, 1)], (1, (4, 2))], [(1, [3, 1]), (1, (4, 2))], [(True, (3, 1)), (1, (4, 2))],
                      [(1, (3, True)), (1, (4, 2))], [(2, (3, 1)), (0, (4, 2))]):
            self.check(self.FIRST, self.SECOND, self.MOVES, cover, False)

    def test_the_cover_is_for_the_first_order_as_base(self):
        first, second = [1, 2, 3], [2, 3, 1]
        cover = level_cover(first, second)
        self.assertTrue(is_cover(first, second, cover))
        self.check(first, second, [((1,), 3)], cover, True)
        self.check(second, first, [((1,), 0)], cover, False)
        self.check(second, first, [((1,), 0)], level_cover(second, first), True)

    def test_a_complete_cover_of_another_size(self):
        cover = [(1, (3,)), (1, (4,)), (1, (1,)), (1, (2,))]
        self.check(self.FIRST, self.SECOND, self.MOVES, cover, False)
        # The size is the weight of all ids, but no moves are no script.
        self.check(self.FIRST, self.SECOND, [], cover, False)

    def test_weights(self):
        cover = level_cover(self.FIRST, self.SECOND, weights={2: 5})
        self.check(self.FIRST, self.SECOND, [((3, 4), 0)], cover, True, weights={2: 5})
        self.check(self.FIRST, self.SECOND, [((3, 4), 0)], cover, True, weights={2: 5, 9: HUGE})
        self.check(self.FIRST, self.SECOND, [((3, 4), 0)], cover, False)
        self.check(self.FIRST, self.SECOND, self.MOVES, cover, False, weights={2: 5})
        # The size is right, and the cover is complete for weights of 1.
        self.check(self.FIRST, self.SECOND, self.MOVES, self.COVER, False, weights={2: 5})

    def test_equal_and_empty_orders(self):
        self.check([], [], [], [], True)
        self.check([], [], [], [()], False)
        self.check([], [], [((1,), 0)], [], False)
        cover = [(1, (1,)), (1, (2,))]
        self.check([1, 2], [1, 2], [], cover, True)
        self.check([1, 2], [1, 2], [((1,), 0)], cover, False)

    def test_all_least_scripts_of_short_orders(self):
        first = [4, 2, 1, 3]
        for second in permutations(first):
            second = list(second)
            for weights in (None, {2: 3}, {1: HUGE, 3: 2}):
                cover = level_cover(first, second, weights=weights)
                moves = list(least_script(first, second, weights=weights))
                self.check(first, second, moves, cover, True, weights=weights)
                self.check(first, second, [((second[0],), 0)] + moves, cover, False, weights=weights)

    def test_any_values(self):
        for value in no_moves() + any_values():
            for place in range(3):
                moves, cover = list(self.MOVES), list(self.COVER)
                moves.insert(place, value)
                cover.insert(place, value)
                self.check(self.FIRST, self.SECOND, moves, self.COVER, False)
                self.check(self.FIRST, self.SECOND, self.MOVES, cover, False)

    def test_the_arguments_stay_as_they_are(self):
        first, second, moves, cover, weights = [1, 2], [2, 1], [((1,), 2)], [(1, (2, 1))], {9: 1}
        is_least_script(first, second, moves, cover, weights=weights)
        self.assertEqual((first, second, moves), ([1, 2], [2, 1], [((1,), 2)]))
        self.assertEqual((cover, weights), ([(1, (2, 1))], {9: 1}))

    def test_arguments_by_name(self):
        more = {"cover": [(1, (2, 1)), (1, (1,))], "second": [2, 1], "first": [1, 2], "weights": {1: 2}}
        self.assertIs(is_least_script(moves=[((2,), 0)], **more), True)
        self.assertIs(is_least_script(moves=[((1,), 2)], **more), False)


class Definitions(unittest.TestCase):

    def test_functions_are_defined_in_their_file(self):
        for name in ("least_script", "script_weight", "is_script", "is_least_script"):
            self.assertEqual(getattr(scripts, name).__module__, "handsorted.scripts")


if __name__ == "__main__":
    unittest.main()
