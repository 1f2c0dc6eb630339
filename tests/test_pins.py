"""Tests of handsorted.pins: pins, laying them, the least ones, their cost and their followers."""

import unittest
from copy import deepcopy
from itertools import permutations, product
from random import Random

from handsorted import pins as pins_module
from handsorted.covers import is_least, level_cover
from handsorted.pins import followers, is_pins, lay, least_pins, pin_cost
from tests.samples import any_values
from tests.words import all_pins, ends, laid, pins_by_search, some_weights, weight

HUGE = 10 ** 59
TOP_ID = 10 ** 6


class Pins(unittest.TestCase):

    def check(self, order, value, answer):
        with self.subTest(order=order, value=value):
            self.assertIs(is_pins(order, value), answer)

    def test_right_pins(self):
        for value in ({}, {1: 0}, {1: 2}, {1: 2, 2: 3}, {1: 2, 3: 2}, {1: 0, 2: 0, 3: 0}, {1: 2, 2: 3, 3: 0}):
            self.check([3, 1, 2], value, True)

    def test_every_dict_of_small_orders(self):
        for order in ([], [1], [2, 1], [3, 1, 2]):
            for anchors in product([None, 0, *order, 4, -1], repeat=3):
                value = {row_id: anchor for row_id, anchor in zip([1, 2, 3], anchors) if anchor is not None}
                known = set(value) <= set(order) and set(value.values()) <= {0, *order}
                self.check(order, value, known and ends(value))

    def test_circles(self):
        self.check([3, 1, 2], {1: 1}, False)
        self.check([3, 1, 2], {1: 2, 2: 1}, False)
        self.check([3, 1, 2], {1: 2, 2: 3, 3: 1}, False)
        self.check([3, 1, 2], {3: 1, 1: 2, 2: 1}, False)
        self.check([3, 1, 2], {3: 0, 1: 2, 2: 1}, False)
        self.check([3, 1, 2, 4], {3: 4, 1: 1, 2: 3}, False)

    def test_long_chains_and_circles(self):
        order = list(range(1, 2001))
        chain = {row_id: row_id + 1 for row_id in order[:-1]}
        self.check(order, chain, True)
        self.check(order, {**chain, 2000: 0}, True)
        self.check(order, {**chain, 2000: 1}, False)
        self.check(order, {**chain, 2000: 2000}, False)

    def test_an_empty_order(self):
        self.check([], {}, True)
        for value in ({0: 0}, {1: 0}, {1: 1}, {None: 0}):
            self.check([], value, False)

    def test_unknown_ids(self):
        for value in ({4: 0}, {4: 1}, {0: 0}, {0: 1}, {-1: 0}, {TOP_ID: 0}, {HUGE: 0}, {1: 0, 4: 0}, {4: 4}):
            self.check([3, 1, 2], value, False)

    def test_unknown_anchors(self):
        for anchor in (4, -1, -3, TOP_ID, HUGE, -HUGE):
            self.check([3, 1, 2], {1: anchor}, False)
            self.check([3, 1, 2], {2: 0, 1: anchor}, False)

    def test_bools_are_no_integers(self):
        for value in ({True: 0}, {True: 2}, {False: 0}, {2: True}, {2: False}, {1: False}, {2: 1, 3: True}):
            self.check([3, 1, 2], value, False)

    def test_keys_that_are_no_ids(self):
        for key in (None, "", "1", (), (1,), (1, 2), ("a", None)):
            self.check([3, 1, 2], {key: 0}, False)
            self.check([3, 1, 2], {2: 0, key: 1}, False)

    def test_any_value(self):
        for value in any_values():
            self.check([3, 2, 4], value, value == {})
            self.check([3, 2, 4], {3: value}, value == 0 and value is not False)
            self.check([3, 2, 4], {2: 3, 3: value}, value == 0 and value is not False)
            self.check([3, 2, 4], [value], False)

    def test_what_is_no_dict(self):
        for value in ([], (), [(1, 0)], ((1, 0),), [1], "", None, 0, 1, True, False):
            self.check([3, 1, 2], value, False)
            self.check([], value, False)

    def test_the_arguments_stay_as_they_are(self):
        for value in any_values() + [{1: 2, 2: 3}, {1: 2, 2: 1}]:
            order, same = [3, 1, 2], deepcopy(value)
            is_pins(order, value)
            self.assertEqual((order, value), ([3, 1, 2], same))

    def test_arguments_by_name(self):
        self.assertIs(is_pins(value={1: 2}, order=[1, 2]), True)
        self.assertIs(is_pins(order=[1, 2], value={1: 3}), False)


class Laying(unittest.TestCase):

    def check(self, base, pins, answer):
        with self.subTest(base=base, pins=pins):
            result = lay(base, pins)
            self.assertEqual(result, answer)
            self.assertIs(type(result), list)

    def test_example(self):
        self.check([1, 2, 3, 4, 5], {5: 1, 4: 0, 2: 5}, [4, 1, 5, 2, 3])

    def test_no_pins(self):
        for base in ([], [1], [3, 1, 2]):
            self.check(base, {}, base)

    def test_the_top_comes_first_in_the_sequence_of_base(self):
        self.check([1, 2, 3, 4], {4: 0}, [4, 1, 2, 3])
        self.check([1, 2, 3, 4], {4: 0, 3: 0}, [3, 4, 1, 2])
        self.check([1, 2, 3, 4], {3: 0, 4: 0, 1: 0}, [1, 3, 4, 2])
        self.check([4, 3, 2, 1], {3: 0, 1: 0}, [3, 1, 4, 2])

    def test_several_ids_on_one_anchor(self):
        self.check([1, 2, 3, 4, 5], {5: 2, 1: 2, 4: 2}, [2, 1, 4, 5, 3])
        self.check([5, 4, 3, 2, 1], {1: 3, 5: 3}, [4, 3, 5, 1, 2])

    def test_each_is_followed_at_once_by_what_is_pinned_to_it(self):
        self.check([1, 2, 3, 4, 5], {1: 5, 2: 5, 3: 1, 4: 2}, [5, 1, 3, 2, 4])
        self.check([1, 2, 3, 4, 5], {5: 0, 4: 0, 1: 5, 2: 4}, [4, 2, 5, 1, 3])
        self.check([1, 2, 3, 4, 5], {5: 0, 4: 5, 3: 4, 2: 3, 1: 2}, [5, 4, 3, 2, 1])

    def test_all_ids_are_pinned(self):
        self.check([1, 2, 3], {1: 0, 2: 0, 3: 0}, [1, 2, 3])
        self.check([1, 2, 3], {1: 3, 2: 1, 3: 0}, [3, 1, 2])

    def test_pins_that_move_nothing(self):
        self.check([1, 2, 3], {2: 1}, [1, 2, 3])
        self.check([1, 2, 3], {1: 0}, [1, 2, 3])

    def test_all_pins_of_small_orders(self):
        for base in ([], [7], [2, 1], [3, 1, 2], [2, 9, 1, 4]):
            for pins in all_pins(base):
                self.check(base, pins, laid(base, pins))

    def test_the_sequence_of_the_dict_does_not_matter(self):
        base, pins = [1, 2, 3, 4, 5], {5: 1, 4: 0, 2: 5, 3: 0}
        for pairs in permutations(pins.items()):
            self.check(base, dict(pairs), [3, 4, 1, 5, 2])

    def test_long_chains(self):
        base = list(range(1, 2001))
        self.check(base, {row_id: row_id + 1 for row_id in base[:-1]}, base[::-1])
        self.check(base, {row_id: 2000 for row_id in base[:-1]}, [2000] + base[:-1])

    def test_the_arguments_stay_as_they_are(self):
        base, pins = [1, 2, 3], {3: 1, 1: 0}
        lay(base, pins)
        self.assertEqual((base, pins), ([1, 2, 3], {3: 1, 1: 0}))

    def test_what_is_returned_is_new(self):
        base = [1, 2, 3]
        lay(base, {}).append(4)
        lay(base, {1: 0}).clear()
        self.assertEqual(base, [1, 2, 3])

    def test_arguments_by_name(self):
        self.assertEqual(lay(pins={2: 0}, base=[1, 2]), [2, 1])


class LeastPins(unittest.TestCase):

    def check(self, base, goal, answer, **more):
        with self.subTest(base=base, goal=goal, **more):
            pins = least_pins(base, goal, **more)
            self.assertEqual(pins, answer)
            self.assertIs(type(pins), dict)
            self.assertEqual(lay(base, pins), goal)

    def test_example(self):
        self.check([1, 2, 3, 4], [3, 4, 1, 2], {1: 4, 2: 1})

    def test_favoured_ids_and_weights(self):
        self.check([1, 2, 3, 4], [3, 4, 1, 2], {3: 0, 4: 3}, favoured=[1])
        self.check([1, 2, 3, 4], [3, 4, 1, 2], {3: 0, 4: 3}, favoured=(2, 9))
        self.check([1, 2, 3, 4], [3, 4, 1, 2], {3: 0, 4: 3}, weights={2: 5})
        self.check([1, 2, 3, 4], [3, 4, 1, 2], {1: 4, 2: 1}, weights={2: 5, 4: 6})
        self.check([1, 2, 3, 4], [3, 4, 1, 2], {1: 4, 2: 1}, weights=None, favoured=())

    def test_the_first_id_is_pinned_to_the_top(self):
        self.check([1, 2, 3], [3, 1, 2], {3: 0})
        self.check([1, 2, 3], [3, 2, 1], {2: 3, 1: 2})
        self.check([1, 2, 3], [3, 2, 1], {3: 0, 2: 3}, favoured=[1])

    def test_equal_orders_have_no_pins(self):
        for order in ([], [1], [3, 1, 2]):
            self.check(order, order, {})
            self.check(order, list(order), {}, favoured=[1], weights={3: HUGE})

    def test_all_short_orders(self):
        for many in range(6):
            base = list(range(1, many + 1))
            for goal in permutations(base):
                for favoured in ((), (2,), [1, 4], [3, 5]):
                    answer = pins_by_search(base, list(goal), None, favoured)
                    self.check(base, list(goal), answer, favoured=favoured)

    def test_short_orders_with_weights(self):
        base = [4, 2, 1, 3]
        for goal in permutations(base):
            for weights in some_weights(base, (2, HUGE)):
                for favoured in ((), (2, 3)):
                    answer = pins_by_search(base, list(goal), weights, favoured)
                    self.check(base, list(goal), answer, weights=weights, favoured=favoured)

    def test_no_pins_cost_less(self):
        base = [4, 2, 1, 3]
        found = {}
        for pins in all_pins(base):
            found.setdefault(tuple(laid(base, pins)), []).append(pins)
        self.assertEqual(len(found), 24)
        for goal, some in found.items():
            for weights in (None, {1: 2, 4: 3}, {2: HUGE, 3: HUGE}):
                least = least_pins(base, list(goal), weights=weights)
                self.assertEqual(weight(least, weights), min(weight(pins, weights) for pins in some))

    def test_long_orders(self):
        random = Random(2)
        base = random.sample(range(1, TOP_ID), 300)
        goal = random.sample(base, 300)
        weights = {row_id: random.randint(1, HUGE) for row_id in base}
        pins = least_pins(base, goal, weights=weights)
        self.assertEqual(lay(base, pins), goal)
        self.assertTrue(is_least(base, goal, pins, level_cover(base, goal, weights=weights), weights=weights))

    def test_the_arguments_stay_as_they_are(self):
        base, goal, weights, favoured = [1, 2, 3, 4], [3, 4, 1, 2], {2: 5}, [4]
        least_pins(base, goal, weights=weights, favoured=favoured).clear()
        self.assertEqual((base, goal, weights, favoured), ([1, 2, 3, 4], [3, 4, 1, 2], {2: 5}, [4]))
        self.check(base, goal, {3: 0, 4: 3}, weights=weights)

    def test_arguments_by_name(self):
        self.assertEqual(least_pins(favoured=[1], weights={}, goal=[2, 1], base=[1, 2]), {2: 0})
        self.assertEqual(least_pins(weights={2: 2}, favoured=[1], goal=[2, 1], base=[1, 2]), {1: 2})


class Costs(unittest.TestCase):

    def test_without_weights(self):
        self.assertEqual(pin_cost({}), 0)
        self.assertEqual(pin_cost({5: 0}), 1)
        self.assertEqual(pin_cost({5: 0, 1: 5, 2: 5}), 3)
        self.assertEqual(pin_cost({5: 0, 1: 5, 2: 5}, weights=None), 3)
        self.assertEqual(pin_cost({5: 0, 1: 5, 2: 5}, weights={}), 3)

    def test_with_weights(self):
        self.assertEqual(pin_cost({5: 0, 1: 5}, weights={5: 7}), 8)
        self.assertEqual(pin_cost({5: 0, 1: 5}, weights={5: 7, 1: 2}), 9)
        self.assertEqual(pin_cost({5: 0, 1: 5}, weights={5: HUGE, 1: HUGE}), 2 * HUGE)
        self.assertEqual(pin_cost({}, weights={5: HUGE}), 0)

    def test_anchors_and_other_ids_cost_nothing(self):
        self.assertEqual(pin_cost({1: 3, 2: 3}, weights={3: 100, 9: 50, 1: 4}), 5)

    def test_the_arguments_stay_as_they_are(self):
        pins, weights = {1: 3}, {3: 2, 1: 4}
        pin_cost(pins, weights=weights)
        self.assertEqual((pins, weights), ({1: 3}, {3: 2, 1: 4}))

    def test_arguments_by_name(self):
        self.assertEqual(pin_cost(weights={1: 4}, pins={1: 0}), 4)


class Followers(unittest.TestCase):

    PINS = {9: 0, 2: 9, 7: 9, 1: 7, 4: 6, 5: 4, 3: 0, 8: 5}

    def check(self, pins, row_id, answer):
        with self.subTest(pins=pins, row_id=row_id):
            self.assertEqual(list(followers(pins, row_id)), answer)

    def test_of_an_id(self):
        self.check(self.PINS, 9, [1, 2, 7])
        self.check(self.PINS, 7, [1])
        self.check(self.PINS, 4, [5, 8])

    def test_of_an_id_without_a_pin(self):
        self.check(self.PINS, 6, [4, 5, 8])

    def test_of_the_top(self):
        self.check(self.PINS, 0, [1, 2, 3, 7, 9])
        self.check({1: 2}, 0, [])

    def test_of_an_id_that_has_none(self):
        for row_id in (1, 2, 3, 8):
            self.check(self.PINS, row_id, [])
        self.check(self.PINS, 10, [])
        self.check(self.PINS, TOP_ID, [])

    def test_no_pins(self):
        self.check({}, 0, [])
        self.check({}, 1, [])

    def test_ascending_and_not_in_the_sequence_of_the_pins(self):
        for pairs in permutations({5: 0, 3: 5, 8: 3, 1: 8}.items()):
            self.check(dict(pairs), 0, [1, 3, 5, 8])
            self.check(dict(pairs), 5, [1, 3, 8])
            self.check(dict(pairs), 3, [1, 8])

    def test_all_pins_of_a_small_order(self):
        order = [3, 1, 4, 2]
        for pins in all_pins(order):
            for row_id in [0, *order]:
                answer = []
                for other in sorted(order):
                    here = other
                    while here in pins and pins[here] != row_id:
                        here = pins[here]
                    if here in pins:
                        answer.append(other)
                self.check(pins, row_id, answer)

    def test_long_chains(self):
        pins = {row_id: row_id + 1 for row_id in range(1, 2000)}
        self.check(pins, 2000, list(range(1, 2000)))
        self.check(pins, 500, list(range(1, 500)))

    def test_one_id_is_yielded_at_a_time(self):
        found = followers({2: 0, 1: 0}, 0)
        self.assertIs(iter(found), found)
        self.assertEqual([next(found), next(found)], [1, 2])
        with self.assertRaises(StopIteration):
            next(found)

    def test_things_are_as_when_the_first_id_is_asked_for(self):
        pins = {2: 0, 1: 0}
        found = followers(pins, 0)
        pins[3] = 1
        self.assertEqual(next(found), 1)
        pins.clear()
        self.assertEqual(list(found), [2, 3])

    def test_the_pins_stay_as_they_are(self):
        pins = dict(self.PINS)
        list(followers(pins, 0))
        self.assertEqual(pins, self.PINS)

    def test_arguments_by_name(self):
        self.assertEqual(list(followers(row_id=9, pins={1: 9})), [1])


class Definitions(unittest.TestCase):

    def test_functions_are_defined_in_their_file(self):
        for name in ("is_pins", "lay", "least_pins", "pin_cost", "followers"):
            self.assertEqual(getattr(pins_module, name).__module__, "handsorted.pins")


if __name__ == "__main__":
    unittest.main()
