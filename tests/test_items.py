"""Tests of handsorted.items: items, rules, and the rule's order."""

import unittest
from copy import deepcopy
from itertools import combinations, permutations, product

from handsorted import items
from handsorted.items import compare_items, is_item, is_rule, rule_order
from tests.samples import any_values

TOP_ID = 10 ** 6
TOP_FIELD = 10 ** 9


class Items(unittest.TestCase):

    def check(self, value, width, answer):
        with self.subTest(value=value, width=width):
            self.assertIs(is_item(value, width), answer)

    def test_items_of_each_width(self):
        fields = (5, -6, 0, 5)
        for width in range(1, 5):
            for many in range(0, 5):
                self.check((3, fields[:many]), width, many == width)

    def test_a_field_too_many(self):
        for width in range(1, 5):
            self.check((3, (1, 2, 3, 4, 5)), width, False)

    def test_the_bounds_of_the_id(self):
        for row_id in (1, 2, TOP_ID - 1, TOP_ID):
            self.check((row_id, (5,)), 1, True)
        for row_id in (0, -1, TOP_ID + 1, -TOP_ID, 10 ** 59, -(10 ** 59)):
            self.check((row_id, (5,)), 1, False)

    def test_the_bounds_of_every_field(self):
        for width in range(1, 5):
            for column in range(width):
                for field in (0, 1, -1, TOP_FIELD - 1, TOP_FIELD, 1 - TOP_FIELD, -TOP_FIELD):
                    fields = (1,) * column + (field,) + (1,) * (width - column - 1)
                    self.check((3, fields), width, True)
                for field in (TOP_FIELD + 1, -TOP_FIELD - 1, 10 ** 59, -(10 ** 59)):
                    fields = (1,) * column + (field,) + (1,) * (width - column - 1)
                    self.check((3, fields), width, False)

    def test_an_id_that_is_no_integer(self):
        for row_id in (True, False, None, "", "3", (), (3,), [], [3], {}, {3: 3}):
            self.check((row_id, (5,)), 1, False)

    def test_a_field_that_is_no_integer(self):
        for width in range(1, 5):
            for column in range(width):
                for field in (True, False, None, "", "5", (), (5,), [], [5], {}, {5: 5}):
                    fields = (1,) * column + (field,) + (1,) * (width - column - 1)
                    self.check((3, fields), width, False)

    def test_fields_that_are_no_tuple(self):
        for fields in (5, True, None, "", "5", [], [5], {}, {5: 5}, {5: (5,)}):
            self.check((3, fields), 1, False)
        self.check((3, [5, 6]), 2, False)
        self.check((3, "56"), 2, False)
        self.check((3, {5: 6, 7: 8}), 2, False)

    def test_an_item_that_is_no_tuple(self):
        for value in ([3, (5,)], [3, [5]], {3: (5,)}, {3: 4, (5,): 6}, "35", 3, None, True, [], {}):
            self.check(value, 1, False)

    def test_a_tuple_of_another_length(self):
        for value in ((), (3,), ((5,),), (3, 5), (3, (5,), 6), (3, (5,), (5,)), (3, (5,), None), ((5,), 3)):
            self.check(value, 1, False)

    def test_any_value_that_is_no_item(self):
        for value in any_values():
            for width in range(1, 5):
                self.check(value, width, False)
                self.check((3, value), width, False)
                self.check((3, (value,) * width), width, value in (0, 1, -1, 7, 10 ** 6) and not is_bool(value))

    def test_the_value_stays_as_it_is(self):
        for value in any_values():
            for whole in (value, (3, value), (value, (5,)), [3, [value]]):
                same = deepcopy(whole)
                is_item(whole, 1)
                self.assertEqual(whole, same)

    def test_arguments_by_name(self):
        self.assertIs(is_item(value=(3, (5,)), width=1), True)
        self.assertIs(is_item(width=2, value=(3, (5,))), False)

    def test_no_error_beyond_the_widths(self):
        for width in (0, 5, 6):
            self.assertIn(is_item((3, (1,) * width), width), (True, False))
            self.assertIs(is_item((3, (1, 2)), width), False)


def is_bool(value):
    return value is True or value is False


class Rules(unittest.TestCase):

    def check(self, value, width, answer):
        with self.subTest(value=value, width=width):
            self.assertIs(is_rule(value, width), answer)

    def test_examples(self):
        self.check((2, -1), 2, True)
        self.check((1, -1), 2, False)

    def test_the_empty_rule(self):
        for width in range(1, 5):
            self.check((), width, True)

    def test_the_bounds_of_a_column(self):
        for width in range(1, 5):
            for column in range(1, width + 1):
                self.check((column,), width, True)
                self.check((-column,), width, True)
            for column in (0, width + 1, -width - 1, width + 2, 10 ** 59, -(10 ** 59)):
                self.check((column,), width, False)

    def test_all_rules_with_every_column(self):
        for width in range(1, 5):
            for columns in permutations(range(1, width + 1)):
                for signs in product((1, -1), repeat=width):
                    self.check(tuple(a * b for a, b in zip(columns, signs)), width, True)

    def test_all_short_tuples(self):
        for width in range(1, 5):
            right = [*range(-width, 0), *range(1, width + 1)]
            for value in product(range(-5, 6), repeat=2):
                answer = value[0] in right and value[1] in right and value[0] not in (value[1], -value[1])
                self.check(value, width, answer)

    def test_a_column_twice_in_every_place(self):
        for first, second in combinations(range(4), 2):
            for sign in (1, -1):
                columns = [1, -2, 3, -4]
                columns[second] = sign * columns[first]
                self.check(tuple(columns), 4, False)
                self.check(tuple(columns[:second + 1]), 4, False)

    def test_a_wrong_column_in_every_place(self):
        for place in range(4):
            for wrong in (0, 5, -5, True, False, None, "1", (1,), [1], {1: 1}):
                columns = [1, -2, 3, -4]
                columns[place] = wrong
                self.check(tuple(columns), 4, False)

    def test_a_column_too_many(self):
        for width in range(1, 5):
            columns = tuple(range(1, width + 1))
            self.check(columns + (width + 1,), width, False)
            self.check(columns + (1,), width, False)
            self.check(columns + (-1,), width, False)

    def test_bools_are_no_columns(self):
        for value in ((True,), (False,), (True, 2), (2, True), (1, False)):
            for width in range(1, 5):
                self.check(value, width, False)

    def test_a_rule_that_is_no_tuple(self):
        for value in ([], [1], [1, 2], {}, {1: 2}, {1: 1, 2: 2}, "", "1", "12", None, 0, 1, -1, True, False):
            for width in range(1, 5):
                self.check(value, width, False)

    def test_any_value_that_is_no_rule(self):
        for value in any_values():
            for width in range(1, 5):
                self.check(value, width, False)
                self.check((value,), width, value in (1, -1) and not is_bool(value))
                self.check((2, value), width, width > 1 and value in (1, -1) and not is_bool(value))

    def test_the_value_stays_as_it_is(self):
        for value in any_values():
            for whole in (value, (1, value), [value]):
                same = deepcopy(whole)
                is_rule(whole, 2)
                self.assertEqual(whole, same)

    def test_arguments_by_name(self):
        self.assertIs(is_rule(value=(2,), width=2), True)
        self.assertIs(is_rule(width=1, value=(2,)), False)

    def test_no_error_beyond_the_widths(self):
        for width in (0, 5, 6):
            for value in ((), (1,), (5,), (1, 2, 3, 4, 5)):
                self.assertIn(is_rule(value, width), (True, False))


class Comparing(unittest.TestCase):

    def check(self, rule, first, second, answer):
        with self.subTest(rule=rule, first=first, second=second):
            there = compare_items(rule, first, second)
            back = compare_items(rule, second, first)
            self.assertEqual((there, back), (answer, -answer))
            self.assertIs(type(there), int)

    def test_the_smaller_field_first(self):
        self.check((1,), (9, (4,)), (3, (5,)), -1)
        self.check((1,), (9, (-5,)), (3, (-4,)), -1)
        self.check((1,), (9, (-TOP_FIELD,)), (3, (TOP_FIELD,)), -1)
        self.check((1,), (9, (TOP_FIELD - 1,)), (3, (TOP_FIELD,)), -1)

    def test_the_greater_field_first(self):
        self.check((-1,), (9, (5,)), (3, (4,)), -1)
        self.check((-1,), (9, (-4,)), (3, (-5,)), -1)
        self.check((-1,), (9, (TOP_FIELD,)), (3, (-TOP_FIELD,)), -1)

    def test_every_column(self):
        for column in range(1, 5):
            for sign in (1, -1):
                fields = [7, 7, 7, 7]
                fields[column - 1] = 7 - sign
                self.check((sign * column,), (9, tuple(fields)), (3, (7, 7, 7, 7)), -1)

    def test_columns_in_the_order_of_the_rule(self):
        self.check((1, 2), (9, (1, 8)), (3, (2, 4)), -1)
        self.check((2, 1), (9, (1, 8)), (3, (2, 4)), 1)
        self.check((2, -1), (9, (2, 4)), (3, (1, 4)), -1)
        self.check((-2, 1), (9, (1, 8)), (3, (0, 4)), -1)
        self.check((3, 1, -4, 2), (9, (1, 5, 3, 2)), (3, (1, 4, 3, 2)), 1)
        self.check((3, 1, -4, 2), (9, (1, 5, 3, 2)), (3, (1, 4, 3, 1)), -1)

    def test_the_smaller_id_decides_at_last(self):
        for rule in ((), (1,), (-1,), (2, 1), (-1, -2)):
            self.check(rule, (3, (5, 6)), (9, (5, 6)), -1)
            self.check(rule, (1, (5, 6)), (TOP_ID, (5, 6)), -1)
            self.check(rule, (10, (5, 6)), (9, (5, 6)), 1)

    def test_the_empty_rule_compares_ids_alone(self):
        self.check((), (3, (9,)), (9, (3,)), -1)

    def test_columns_outside_the_rule_do_not_matter(self):
        self.check((2,), (3, (9, 5, 9)), (9, (1, 5, 1)), -1)
        self.check((-2,), (3, (9, 5, 9)), (9, (1, 5, 1)), -1)

    def test_an_item_and_itself(self):
        for rule in ((), (1,), (-1,), (2, -1)):
            self.check(rule, (3, (5, 6)), (3, (5, 6)), 0)

    def test_against_columns_compared_one_by_one(self):
        some = [(row_id, fields) for row_id, fields in enumerate(product((1, 2), repeat=2), start=1)]
        for rule in ((), (1,), (-1,), (2,), (-2,), (1, 2), (-1, 2), (2, -1), (-2, -1)):
            for first, second in product(some, repeat=2):
                self.check(rule, first, second, compared_slowly(rule, first, second))

    def test_arguments_by_name(self):
        self.assertEqual(compare_items(rule=(1,), first=(3, (5,)), second=(9, (4,))), 1)
        self.assertEqual(compare_items(second=(3, (5,)), first=(9, (4,)), rule=(1,)), -1)


def compared_slowly(rule, first, second):
    """Compare two items as the document says it, word by word."""
    for column in rule:
        mine, other = first[1][abs(column) - 1], second[1][abs(column) - 1]
        if mine != other:
            return -1 if (mine < other) == (column > 0) else 1
    return (first[0] > second[0]) - (first[0] < second[0])


class RuleOrder(unittest.TestCase):

    def check(self, rule, table, answer):
        with self.subTest(rule=rule, table=table):
            order = rule_order(rule, table)
            self.assertEqual(order, answer)
            self.assertIs(type(order), list)

    def test_example(self):
        self.check((2, -1), {7: (1, 5), 3: (2, 5), 9: (4, 4)}, [9, 3, 7])

    def test_no_items(self):
        for rule in ((), (1,), (-1,)):
            self.check(rule, {}, [])

    def test_one_item(self):
        self.check((1,), {TOP_ID: (TOP_FIELD,)}, [TOP_ID])

    def test_the_empty_rule_is_the_order_of_ids(self):
        self.check((), {20: (1,), 3: (5,), 100: (0,), 1: (9,)}, [1, 3, 20, 100])

    def test_equal_fields_are_ordered_by_ids(self):
        self.check((1,), {20: (5,), 3: (5,), 100: (4,), 1: (5,)}, [100, 1, 3, 20])
        self.check((-1,), {20: (5,), 3: (5,), 100: (4,), 1: (5,)}, [1, 3, 20, 100])

    def test_fields_are_compared_as_numbers(self):
        self.check((1,), {1: (10,), 2: (9,), 3: (-10,), 4: (-9,), 5: (0,)}, [3, 4, 5, 2, 1])
        self.check((-1,), {1: (10,), 2: (9,), 3: (-10,), 4: (-9,), 5: (0,)}, [1, 2, 5, 4, 3])

    def test_fields_at_their_bounds(self):
        self.check((1,), {1: (TOP_FIELD,), 2: (-TOP_FIELD,), 3: (TOP_FIELD - 1,)}, [2, 3, 1])
        self.check((-1,), {1: (TOP_FIELD,), 2: (-TOP_FIELD,), 3: (TOP_FIELD - 1,)}, [1, 3, 2])

    def test_four_columns(self):
        table = {1: (1, 2, 2, 1), 2: (1, 2, 2, 2), 3: (1, 2, 1, 1), 4: (1, 1, 9, 9), 5: (0, 9, 9, 9)}
        self.check((1, 2, 3, 4), table, [5, 4, 3, 1, 2])
        self.check((-1, -2, -3, -4), table, [2, 1, 3, 4, 5])
        self.check((4, 3, 2, 1), table, [3, 1, 2, 4, 5])
        self.check((1, -2, 3, -4), table, [5, 3, 2, 1, 4])

    def test_the_sequence_of_the_dict_does_not_matter(self):
        table = {7: (1, 5), 3: (2, 5), 9: (4, 4), 4: (2, 5)}
        for entries in permutations(table.items()):
            self.check((2, -1), dict(entries), [9, 3, 4, 7])

    def test_it_agrees_with_comparing(self):
        table = {row_id: fields for row_id, fields in enumerate(product((3, 1, 2), repeat=3), start=1)}
        for rule in ((), (2,), (-3,), (3, 1), (-1, 2, -3), (2, -1)):
            order = rule_order(rule, table)
            self.assertEqual(sorted(order), sorted(table))
            for before, after in zip(order, order[1:]):
                self.assertEqual(compared_slowly(rule, (before, table[before]), (after, table[after])), -1)

    def test_the_arguments_stay_as_they_are(self):
        table = {7: (1, 5), 3: (2, 5), 9: (4, 4)}
        rule_order((2, -1), table)
        self.assertEqual(list(table.items()), [(7, (1, 5)), (3, (2, 5)), (9, (4, 4))])

    def test_what_is_returned_is_new(self):
        table = {7: (1, 5), 3: (2, 5)}
        first = rule_order((1,), table)
        first.append(1)
        self.assertEqual(rule_order((1,), table), [7, 3])
        self.assertEqual(table, {7: (1, 5), 3: (2, 5)})

    def test_arguments_by_name(self):
        self.assertEqual(rule_order(rule=(-1,), items={7: (1,), 3: (2,), 9: (2,)}), [3, 9, 7])
        self.assertEqual(rule_order(items={7: (1,), 3: (2,)}, rule=(1,)), [7, 3])

    def test_many_items(self):
        table = {row_id: (row_id * 7919 % 1009,) for row_id in range(1, 3001)}
        order = rule_order((-1,), table)
        self.assertEqual(order, sorted(table, key=lambda row_id: (-table[row_id][0], row_id)))


class Definitions(unittest.TestCase):

    def test_functions_are_defined_in_their_file(self):
        for name in ("is_item", "is_rule", "compare_items", "rule_order"):
            self.assertEqual(getattr(items, name).__module__, "handsorted.items")


if __name__ == "__main__":
    unittest.main()
