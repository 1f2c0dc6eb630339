"""Tests of handsorted.board: its errors, the values that they keep, and that nothing changes."""

import unittest

from handsorted.board import Board
from handsorted.errors import BadItem, BadMove, BadRule, HandError, NameTaken, NothingToDo, TakenId, TooMany
from handsorted.errors import UnknownId, UnknownName
from tests.samples import any_values
from tests.test_board import board_of, everything
from tests.test_office import not_names

TOP_ID = 10 ** 6
BIG = 10 ** 60 - 1


def wrong_rules():
    """Return values that are no rules for the width 2."""
    return any_values() + [(0,), (3,), (-3,), (1, 1), (1, -1), (True,), (None,), [], [1], "", None, (BIG,)]


class Errors(unittest.TestCase):

    def setUp(self):
        self.board = board_of((1, 9), (2, 8), (3, 7), width=2, ann=(1,), bob=(-1,))
        self.board.move("ann", 3)
        self.board.move("bob", 1)
        self.board.close_list("bob")
        self.board.undo()
        self.before = everything(self.board)
        self.assertTrue(self.before[0] and self.before[2])

    def check(self, error, attribute, value, call, *args, very=False, **more):
        """Check the error, the value that it keeps, and that the call has changed nothing."""
        with self.subTest(error=error, call=call.__name__, args=args, **more):
            with self.assertRaises(HandError) as caught:
                call(*args, **more)
            self.assertIs(type(caught.exception), error)
            kept = getattr(caught.exception, attribute)
            if very:
                self.assertIs(kept, value)
            self.assertEqual(kept, value)
            self.assertIs(type(kept), type(value))
            # Looking at all that can be undone takes long: it is done once for each test.
            self.assertEqual((self.board.names, len(self.board)), (["ann", "bob"], 3))

    def tearDown(self):
        self.assertEqual(everything(self.board), self.before)

    def named_calls(self):
        """Return calls of every method that takes the name of a list."""
        board = self.board
        return [(board.close_list, (), {}), (board.set_rule, ((1,),), {}), (board.set_rule, ((9,),), {}),
                (board.move, (1,), {"behind": 2}), (board.move, (), {}), (board.reset, (1,), {}),
                (board.reset, (9, 9), {}), (board.list_of, (), {}), (board.order_of, (), {}), (board.pins_of, (), {})]

    def test_what_is_no_name(self):
        for name in not_names():
            self.check(UnknownName, "name", name, self.board.open_list, name, very=True)
            self.check(UnknownName, "name", name, self.board.open_list, name, rule=(9,), very=True)
            for call, args, more in self.named_calls():
                self.check(UnknownName, "name", name, call, name, *args, very=True, **more)

    def test_names_of_no_list(self):
        for name in ("a", "an", "anna", "zoe", "abcdefgh"):
            for call, args, more in self.named_calls():
                self.check(UnknownName, "name", name, call, name, *args, very=True, **more)

    def test_a_taken_name(self):
        for name in ("ann", "bob"):
            self.check(NameTaken, "name", name, self.board.open_list, name, very=True)
            self.check(NameTaken, "name", name, self.board.open_list, name, rule=(9,))
            self.check(NameTaken, "name", name, self.board.open_list, name, rule=[1])

    def test_wrong_rules(self):
        for rule in wrong_rules():
            self.check(BadRule, "value", rule, self.board.open_list, "cy", rule=rule, very=True)
            self.check(BadRule, "value", rule, self.board.set_rule, "ann", rule, very=True)

    def test_wrong_items(self):
        for call in (self.board.add_item, self.board.set_fields):
            for fields in ((), (1,), (1, 2, 3), (True, 1), (1, None), ("1", 2), ((1, 2),), (1, 10 ** 9 + 1), (BIG, 1)):
                self.check(BadItem, "value", (9, fields), call, 9, *fields)
                self.check(BadItem, "value", (1, fields), call, 1, *fields)
            for row_id in (0, -1, TOP_ID + 1, BIG, True, None, "1", (1,), [1], {}):
                self.check(BadItem, "value", (row_id, (1, 2)), call, row_id, 1, 2)

    def test_taken_and_unknown_ids(self):
        self.check(TakenId, "row_id", 3, self.board.add_item, 3, 1, 2)
        self.check(UnknownId, "row_id", 4, self.board.set_fields, 4, 1, 2)
        for row_id in (4, 0, -1, TOP_ID + 1, BIG, -BIG):
            self.check(UnknownId, "row_id", row_id, self.board.fields_of, row_id)

    def test_wrong_ids(self):
        calls = [(self.board.drop, ()), (self.board.reset, ("ann",)), (self.board.reset, ("bob",))]
        for call, name in calls:
            for ids in ((1, 1), (9, 9), (0,), (1, -1), (TOP_ID + 1,), (True,), (None,), ("1",), ((1,),), ([1],),
                        (9, [])):
                self.check(BadMove, "value", ids, call, *name, *ids)
            for ids, first in (((9,), 9), ((1, 9, 8), 9), ((8, 9), 8), ((1, 2, 3, TOP_ID), TOP_ID)):
                self.check(UnknownId, "row_id", first, call, *name, *ids)

    def test_wrong_moves(self):
        for name in ("ann", "bob"):
            for ids in ((), (1, 1), (9,), (1, 9), (0,), (True,), (None,), ("1",), ([1],), ((1,),), (1, {})):
                self.check(BadMove, "value", (ids, 0), self.board.move, name, *ids)
                self.check(BadMove, "value", (ids, 2), self.board.move, name, *ids, behind=2)
            for behind in (1, 9, -1, True, False, None, "2", (2,), [2], {}, BIG):
                self.check(BadMove, "value", ((1,), behind), self.board.move, name, 1, behind=behind)

    def test_names_before_other_errors(self):
        self.check(UnknownName, "name", "cy", self.board.set_rule, "cy", [1])
        self.check(UnknownName, "name", "cy", self.board.move, "cy", 9, 9, behind=9)
        self.check(UnknownName, "name", [1], self.board.reset, [1], 1, 1)


class TheLimit(unittest.TestCase):

    def test_three_hundred_items_and_no_more(self):
        board = Board(1)
        board.open_list("ann")
        for row_id in range(1, 301):
            board.add_item(row_id, 0)
        self.assertEqual(len(board), 300)
        for _ in range(2):
            with self.assertRaises(TooMany) as caught:
                board.add_item(301, 0)
            self.assertEqual(caught.exception.count, 301)
        self.assertEqual((len(board), len(board.order_of("ann"))), (300, 300))
        with self.assertRaises(TakenId):
            board.add_item(300, 0)
        with self.assertRaises(BadItem):
            board.add_item(300)
        board.drop(1)
        board.add_item(301, 0)
        board.undo()
        board.undo()
        self.assertEqual(board.order_of("ann"), list(range(1, 301)))
        board.redo()
        board.redo()
        with self.assertRaises(NothingToDo):
            board.redo()

    def test_without_lists(self):
        board = Board(1)
        for row_id in range(1, 301):
            board.add_item(row_id, 0)
        with self.assertRaises(TooMany) as caught:
            board.add_item(TOP_ID, 0)
        self.assertEqual(caught.exception.count, 301)


class Definitions(unittest.TestCase):

    def test_methods_are_defined_in_the_class_itself(self):
        self.assertEqual(Board.__module__, "handsorted.board")
        for name in ("width", "names", "open_list", "close_list", "add_item", "drop", "set_fields", "set_rule", "move",
                     "reset", "list_of", "order_of", "pins_of", "fields_of", "__len__", "undo", "redo"):
            self.assertIn(name, vars(Board))


if __name__ == "__main__":
    unittest.main()
