"""Tests of handsorted.orders: orders, moves and neighbours."""

import unittest
from copy import deepcopy
from itertools import permutations, product

from handsorted import orders
from handsorted.errors import BadMove
from handsorted.orders import do_move, do_moves, is_move, is_order, neighbours
from tests.samples import any_values

TOP_ID = 10 ** 6


class Orders(unittest.TestCase):

    def check(self, value, answer):
        with self.subTest(value=value):
            self.assertIs(is_order(value), answer)

    def test_lists_of_different_ids(self):
        for value in ([], [1], [2, 1], [5, 3, 9, 1], list(range(1, 301)), list(range(300, 0, -1))):
            self.check(value, True)

    def test_the_bounds_of_an_id_in_every_place(self):
        for place in range(3):
            for row_id in (1, TOP_ID - 1, TOP_ID):
                value = [7, 8]
                value.insert(place, row_id)
                self.check(value, True)
            for row_id in (0, -1, -7, TOP_ID + 1, 10 ** 59, -(10 ** 59)):
                value = [7, 8]
                value.insert(place, row_id)
                self.check(value, False)

    def test_an_id_twice(self):
        for value in ([1, 1], [3, 1, 3], [1, 2, 2], [2, 2, 1], [1, 2, 3, 4, 1], [TOP_ID, TOP_ID]):
            self.check(value, False)

    def test_what_is_no_id_in_every_place(self):
        for place in range(3):
            for wrong in (True, False, None, "", "1", (), (1,), [], [1], {}, {1: 1}):
                value = [7, 8]
                value.insert(place, wrong)
                self.check(value, False)

    def test_bools_are_no_ids(self):
        for value in ([True], [False], [True, True], [2, True], [1, True]):
            self.check(value, False)

    def test_what_is_no_list(self):
        for value in ((), (1,), (2, 1), {}, {1: 2}, {1: 1, 2: 2}, "", "1", "12", None, 0, 1, True, False):
            self.check(value, False)

    def test_any_value_that_is_no_order(self):
        for value in any_values():
            self.check(value, False)
            self.check([value], value in (1, 7, 10 ** 6) and value is not True)

    def test_the_value_stays_as_it_is(self):
        for value in any_values() + [[2, 1], [1, 1]]:
            same = deepcopy(value)
            is_order(value)
            self.assertEqual(value, same)

    def test_arguments_by_name(self):
        self.assertIs(is_order(value=[2, 1]), True)
        self.assertIs(is_order(value=(2, 1)), False)


def tuples_of(values, longest):
    """Return all tuples of these values up to a length."""
    return [found for many in range(longest + 1) for found in product(values, repeat=many)]


def wrong_moves():
    """Return new values that are no move of the order [3, 1, 2], and nearly one."""
    return [
        (), ((1,),), (1,), ((1,), 0, 0), ((1,), 0, None), (1, 2), (0, (1,)), ((1,), (2,)),
        [(1,), 0], [[1], 0], ([1], 0), ({1: 1}, 0), {1: 0}, {(1,): 0}, {(1,): 0, 1: 0}, ("1", 0), (None, 0),
        ((), 0), ((), 1), ([], 0), ("", 0), ({}, 0), (1, 0), (True, 0),
        ((4,), 0), ((0,), 0), ((0,), 1), ((-1,), 0), ((1, 4), 0), ((4, 1), 0), ((1, 0), 2), ((10 ** 59,), 0),
        ((1, 1), 0), ((1, 2, 1), 0), ((1, 1), 2), ((1, 2, 3, 1), 0), ((1, 2, 2), 3),
        ((1,), 1), ((1, 2), 1), ((1, 2), 2), ((1, 2, 3), 3),
        ((1,), 4), ((1,), -1), ((1,), -2), ((1,), 10 ** 6), ((1,), 10 ** 59),
        ((1,), None), ((1,), True), ((1,), False), ((2,), True), ((2,), False), ((1,), "2"), ((1,), "0"), ((1,), ""),
        ((1,), ()), ((1,), []), ((1,), [2]), ((1,), {}), ((1,), {2: 2}), ((1,), (0,)),
        ((True,), 0), ((True,), 2), ((2, True), 0), ((1, True), 0), ((False,), 0), ((None,), 0), (("1",), 0),
        (((1,),), 0), (([1],), 0), (({1: 1},), 0), ((2, [1]), 0), ((2, {}), 0), ((2, ()), 0), ((1, None), 2),
    ]


class Moves(unittest.TestCase):

    def check(self, order, value, answer):
        with self.subTest(order=order, value=value):
            self.assertIs(is_move(order, value), answer)

    def test_all_tuples_of_small_numbers(self):
        for order in ([], [1], [2], [2, 1], [3, 1], [3, 1, 2]):
            for ids in tuples_of(range(-1, 5), 3):
                for behind in range(-1, 5):
                    right_ids = ids != () and set(ids) <= set(order) and len(set(ids)) == len(ids)
                    right_behind = behind == 0 or (behind in order and behind not in ids)
                    self.check(order, (ids, behind), right_ids and right_behind)

    def test_no_move_of_an_empty_order(self):
        for value in (((), 0), ((1,), 0), ((0,), 0)):
            self.check([], value, False)

    def test_all_ids_of_an_order(self):
        self.check([3, 1, 2], ((1, 2, 3), 0), True)
        self.check([3, 1, 2], ((3, 1, 2), 0), True)
        self.check([3, 1, 2], ((3, 1, 2), 3), False)

    def test_the_greatest_id(self):
        self.check([TOP_ID, 1], ((TOP_ID,), 1), True)
        self.check([TOP_ID, 1], ((1,), TOP_ID), True)
        self.check([TOP_ID, 1], ((TOP_ID + 1,), 1), False)
        self.check([TOP_ID, 1], ((1,), TOP_ID + 1), False)

    def test_where_an_id_stands_already(self):
        for value in (((3,), 0), ((1,), 3), ((3, 1), 0), ((1, 2), 3)):
            self.check([3, 1, 2], value, True)

    def test_wrong_moves(self):
        for value in wrong_moves():
            self.check([3, 1, 2], value, False)

    def test_any_value_that_is_no_move(self):
        for value in any_values():
            usual = value in (1, 7) and value is not True
            self.check([1, 7, 3], value, False)
            self.check([1, 7, 3], (value, 0), False)
            self.check([1, 7, 3], ((value,), 0), usual)
            self.check([1, 7, 3], ((3, value), 0), usual)
            self.check([1, 7, 3], ((3,), value), usual or (value == 0 and value is not False))

    def test_the_arguments_stay_as_they_are(self):
        for value in any_values() + wrong_moves() + [((1,), 2)]:
            order, same = [3, 1, 2], deepcopy(value)
            is_move(order, value)
            self.assertEqual(order, [3, 1, 2])
            self.assertEqual(value, same)

    def test_arguments_by_name(self):
        self.assertIs(is_move(order=[3, 1], value=((1,), 0)), True)
        self.assertIs(is_move(value=((2,), 0), order=[3, 1]), False)


class DoingMoves(unittest.TestCase):

    def check(self, order, move, answer):
        with self.subTest(order=order, move=move):
            result = do_move(order, move)
            self.assertEqual(result, answer)
            self.assertIs(type(result), list)

    def check_refused(self, order, move):
        with self.subTest(order=order, move=move):
            same_order, same_move = list(order), deepcopy(move)
            with self.assertRaises(BadMove) as caught:
                do_move(order, move)
            self.assertIs(type(caught.exception), BadMove)
            self.assertIs(caught.exception.value, move)
            self.assertEqual(order, same_order)
            self.assertEqual(move, same_move)

    def test_examples(self):
        self.check([1, 2, 3, 4], ((4, 1), 2), [2, 4, 1, 3])
        self.check_refused([1, 2, 3], ((2,), 2))

    def test_to_the_beginning(self):
        self.check([5, 6, 7], ((7,), 0), [7, 5, 6])
        self.check([5, 6, 7], ((6,), 0), [6, 5, 7])
        self.check([5, 6, 7], ((5,), 0), [5, 6, 7])
        self.check([5, 6, 7], ((7, 6), 0), [7, 6, 5])

    def test_to_the_end(self):
        self.check([5, 6, 7], ((5,), 7), [6, 7, 5])
        self.check([5, 6, 7], ((6,), 7), [5, 7, 6])
        self.check([5, 6, 7], ((6, 5), 7), [7, 6, 5])
        self.check([5, 6, 7], ((7,), 6), [5, 6, 7])

    def test_behind_an_id_between(self):
        self.check([1, 2, 3, 4, 5], ((1,), 3), [2, 3, 1, 4, 5])
        self.check([1, 2, 3, 4, 5], ((5,), 3), [1, 2, 3, 5, 4])
        self.check([1, 2, 3, 4, 5], ((5, 2), 3), [1, 3, 5, 2, 4])
        self.check([1, 2, 3, 4, 5], ((2, 5), 3), [1, 3, 2, 5, 4])

    def test_all_ids(self):
        self.check([1, 2, 3], ((2, 3, 1), 0), [2, 3, 1])
        self.check([1], ((1,), 0), [1])

    def test_the_greatest_id(self):
        self.check([TOP_ID, 1, 2], ((TOP_ID,), 1), [1, TOP_ID, 2])
        self.check([TOP_ID, 1, 2], ((2,), TOP_ID), [TOP_ID, 2, 1])

    def test_all_moves_of_small_orders(self):
        for order in ([1], [2, 1], [3, 1, 2], [9, 4, 1, 7]):
            for many in range(1, len(order) + 1):
                for ids in permutations(order, many):
                    for behind in [0, *order]:
                        if behind not in ids:
                            self.check_words(order, ids, behind)

    def check_words(self, order, ids, behind):
        """Check that the ids stand together behind the id, and that the others keep their sequence."""
        with self.subTest(order=order, ids=ids, behind=behind):
            result = do_move(order, (ids, behind))
            at = result.index(ids[0])
            self.assertEqual(result[at:at + len(ids)], list(ids))
            self.assertEqual([0, *result][at], behind)
            self.assertEqual(result[:at] + result[at + len(ids):], [x for x in order if x not in ids])

    def test_wrong_moves(self):
        for move in wrong_moves():
            self.check_refused([3, 1, 2], move)

    def test_any_value_that_is_no_move(self):
        for value in any_values():
            self.check_refused([3, 1, 2], value)
            self.check_refused([3, 1, 2], (value, 0))
            self.check_refused([3, 2, 4], ((value,), 0))
            self.check_refused([3, 2, 4], ((3,), (value,)))

    def test_no_move_of_an_empty_order(self):
        for move in (((), 0), ((1,), 0), None, ()):
            self.check_refused([], move)

    def test_the_error_keeps_the_very_value(self):
        move = [[1], 0]
        with self.assertRaises(BadMove) as caught:
            do_move([3, 1, 2], move)
        move[0].append(2)
        self.assertIs(caught.exception.value, move)
        self.assertEqual(caught.exception.value, [[1, 2], 0])

    def test_the_arguments_stay_as_they_are(self):
        order, move = [1, 2, 3, 4], ((4, 1), 2)
        do_move(order, move)
        self.assertEqual(order, [1, 2, 3, 4])
        self.assertEqual(move, ((4, 1), 2))

    def test_what_is_returned_is_new(self):
        for move in (((1,), 0), ((3,), 2), ((1, 2, 3), 0), ((2, 3), 1), ((3,), 0)):
            order = [1, 2, 3]
            result = do_move(order, move)
            result.append(4)
            self.assertEqual(order, [1, 2, 3])
            self.assertEqual(do_move(order, move), result[:-1])

    def test_arguments_by_name(self):
        self.assertEqual(do_move(order=[1, 2], move=((2,), 0)), [2, 1])
        with self.assertRaises(BadMove):
            do_move(move=((3,), 0), order=[1, 2])


class DoingSeveralMoves(unittest.TestCase):

    def check_refused(self, order, moves, first_wrong):
        with self.subTest(order=order, moves=moves):
            same = list(order)
            with self.assertRaises(BadMove) as caught:
                do_moves(order, *moves)
            self.assertIs(type(caught.exception), BadMove)
            self.assertIs(caught.exception.value, first_wrong)
            self.assertEqual(order, same)

    def test_no_moves(self):
        for order in ([], [1], [3, 1, 2]):
            self.assertEqual(do_moves(order), order)

    def test_one_move(self):
        self.assertEqual(do_moves([1, 2, 3, 4], ((4, 1), 2)), [2, 4, 1, 3])

    def test_one_after_the_other(self):
        self.assertEqual(do_moves([1, 2, 3], ((3,), 0), ((1,), 2)), [3, 2, 1])
        self.assertEqual(do_moves([1, 2, 3], ((1,), 2), ((3,), 0)), [3, 2, 1])
        self.assertEqual(do_moves([1, 2, 3], ((1,), 2), ((3,), 2)), [2, 3, 1])
        self.assertEqual(do_moves([1, 2, 3], ((3,), 2), ((1,), 2)), [2, 1, 3])

    def test_the_same_move_twice(self):
        self.assertEqual(do_moves([1, 2, 3], ((3, 1), 2), ((3, 1), 2)), [2, 3, 1])

    def test_there_and_back(self):
        self.assertEqual(do_moves([1, 2, 3], ((3,), 0), ((3,), 2)), [1, 2, 3])

    def test_against_single_moves(self):
        order = [4, 2, 1, 3]
        moves = [((a,), b) for a in order for b in [0, *order] if a != b]
        for some in product(moves, repeat=2):
            self.assertEqual(do_moves(order, *some), do_move(do_move(order, some[0]), some[1]))

    def test_the_first_wrong_move_is_told(self):
        wrong, worse = ((2,), 2), ((9,), 0)
        self.check_refused([1, 2, 3], [wrong], wrong)
        self.check_refused([1, 2, 3], [wrong, worse], wrong)
        self.check_refused([1, 2, 3], [worse, wrong], worse)
        self.check_refused([1, 2, 3], [((3,), 0), wrong, ((1,), 0), worse], wrong)
        self.check_refused([1, 2, 3], [((3,), 0), ((1,), 0), worse], worse)

    def test_wrong_moves_in_every_place(self):
        for wrong in wrong_moves() + any_values():
            for place in range(3):
                moves = [((2,), 0), ((1,), 3)]
                moves.insert(place, wrong)
                self.check_refused([3, 1, 2], moves, wrong)

    def test_no_move_of_an_empty_order(self):
        move = ((1,), 0)
        self.check_refused([], [move], move)

    def test_the_arguments_stay_as_they_are(self):
        order, first, second = [1, 2, 3], ((3,), 0), ((1,), 2)
        do_moves(order, first, second)
        self.assertEqual((order, first, second), ([1, 2, 3], ((3,), 0), ((1,), 2)))

    def test_what_is_returned_is_new(self):
        for moves in ([], [((1,), 0)], [((3,), 0), ((3,), 2)], [((2,), 0)]):
            order = [1, 2, 3]
            result = do_moves(order, *moves)
            self.assertIs(type(result), list)
            result.append(4)
            self.assertEqual(order, [1, 2, 3])
            self.assertEqual(do_moves(order, *moves), result[:-1])

    def test_the_order_by_name(self):
        self.assertEqual(do_moves(order=[2, 1]), [2, 1])

    def test_many_moves(self):
        order = list(range(1, 301))
        moves = [((row_id,), 0) for row_id in order]
        self.assertEqual(do_moves(order, *moves), order[::-1])


class Neighbours(unittest.TestCase):

    def test_example(self):
        self.assertEqual([pair for pair in neighbours([5, 2])], [(0, 5), (5, 2)])

    def test_short_orders(self):
        self.assertEqual(list(neighbours([])), [])
        self.assertEqual(list(neighbours([TOP_ID])), [(0, TOP_ID)])

    def test_every_id_of_longer_orders(self):
        for order in permutations(range(1, 6)):
            pairs = list(neighbours(list(order)))
            self.assertEqual(pairs, list(zip((0, *order), order)))
            self.assertEqual({type(pair) for pair in pairs}, {tuple})

    def test_one_pair_is_yielded_at_a_time(self):
        pairs = neighbours([5, 2])
        self.assertIs(iter(pairs), pairs)
        self.assertEqual(next(pairs), (0, 5))
        self.assertEqual(next(pairs), (5, 2))
        with self.assertRaises(StopIteration):
            next(pairs)

    def test_things_are_as_when_the_first_pair_is_asked_for(self):
        order = [1, 2, 3]
        pairs = neighbours(order)
        order[:] = [5, 4]
        self.assertEqual(list(pairs), [(0, 5), (5, 4)])

    def test_later_changes_do_not_matter(self):
        for change in (list.clear, list.reverse, lambda order: order.append(9), lambda order: order.insert(0, 9)):
            order = [1, 2, 3]
            pairs = neighbours(order)
            found = [next(pairs)]
            change(order)
            self.assertEqual(found + list(pairs), [(0, 1), (1, 2), (2, 3)])

    def test_two_at_the_same_time(self):
        order = [5, 2]
        self.assertEqual(list(zip(neighbours(order), neighbours(order))), [((0, 5), (0, 5)), ((5, 2), (5, 2))])

    def test_the_order_stays_as_it_is(self):
        order = [5, 2]
        list(neighbours(order))
        self.assertEqual(order, [5, 2])

    def test_arguments_by_name(self):
        self.assertEqual(list(neighbours(order=[5, 2])), [(0, 5), (5, 2)])


class Definitions(unittest.TestCase):

    def test_functions_are_defined_in_their_file(self):
        for name in ("is_order", "is_move", "do_move", "do_moves", "neighbours"):
            self.assertEqual(getattr(orders, name).__module__, "handsorted.orders")


if __name__ == "__main__":
    unittest.main()
