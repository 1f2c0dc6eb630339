"""Tests of handsorted.board: lists of one store, their changes, undo and redo."""

import unittest
from random import Random

from handsorted.board import Board
from handsorted.errors import BadItem, NothingToDo, UnknownId
from handsorted.handlist import HandList
from tests.lists import filled, held, items_of, whole
from tests.words import Model


def seen(board):
    """Return all that a board holds."""
    lists = {}
    items = {}
    for name in board.names:
        hand = board.list_of(name)
        assert (board.order_of(name), board.pins_of(name)) == (hand.order, hand.pins)
        assert whole(hand) == ([], held(hand), [])
        lists[name] = held(hand)
    for row_id in range(1, 20):
        try:
            items[row_id] = board.fields_of(row_id)
        except UnknownId:
            pass
    assert all(items_of(board.list_of(name)) == items for name in lists)
    return (board.width, len(board), items, lists)


def everything(board):
    """Return what a board holds, what it held and will hold by each undo and redo; leave it as it is."""
    return whole(board, seen)


def board_of(*fields, width=1, **rules):
    """Return a board with the ids 1, 2, .. that have these fields, and with lists that have these rules."""
    board = Board(width)
    for place, field in enumerate(fields):
        board.add_item(place + 1, *(field if isinstance(field, tuple) else (field,)))
    for name, rule in rules.items():
        board.open_list(name, rule=rule)
    return board


def all_changes():
    """Return one change of every kind, and some that leave all as it is, as functions of a board."""
    return [
        lambda board: board.add_item(9, 3),
        lambda board: board.drop(2),
        lambda board: board.drop(3, 1),
        lambda board: board.drop(),
        lambda board: board.set_fields(1, 9),
        lambda board: board.set_fields(1, *board.fields_of(1)),
        lambda board: board.set_rule("up", (-1,)),
        lambda board: board.set_rule("up", (1,)),
        lambda board: board.move("up", 3),
        lambda board: board.move("up", 3, 1, behind=2),
        lambda board: board.move("down", board.order_of("down")[0]),
        lambda board: board.reset("down", 1),
        lambda board: board.reset("up"),
        lambda board: board.open_list("new"),
        lambda board: board.open_list("zz", rule=(-1,)),
        lambda board: board.close_list("down"),
    ]


class Boards(unittest.TestCase):

    def test_a_new_board(self):
        for width in (1, 2, 3, 4):
            board = Board(width)
            self.assertEqual((board.width, board.names, len(board)), (width, [], 0))
            self.assertEqual(everything(board), ([], (width, 0, {}, {}), []))

    def test_the_width_and_names_cannot_be_assigned(self):
        board = Board(1)
        for name in ("width", "names"):
            with self.assertRaises(AttributeError):
                setattr(board, name, getattr(board, name))

    def test_boards_share_nothing(self):
        first, second = Board(1), Board(1)
        first.add_item(1, 5)
        first.open_list("ann")
        self.assertEqual(seen(second), (1, 0, {}, {}))

    def test_items_without_lists(self):
        board = board_of(5, 7)
        self.assertEqual(len(board), 2)
        self.assertEqual((board.fields_of(1), board.fields_of(2)), ((5,), (7,)))
        board.set_fields(1, 9)
        board.drop(2)
        self.assertEqual(seen(board), (1, 1, {1: (9,)}, {}))

    def test_lists_without_items(self):
        board = board_of(ann=(), bob=(-1,))
        self.assertEqual(board.names, ["ann", "bob"])
        self.assertEqual((board.order_of("ann"), board.pins_of("ann")), ([], {}))
        self.assertEqual(board.list_of("bob"), HandList(1, rule=(-1,)))

    def test_opening_a_list(self):
        board = board_of((1, 9), (2, 8), (3, 7), width=2)
        self.assertIsNone(board.open_list("ann"))
        self.assertIsNone(board.open_list("bob", rule=(2,)))
        self.assertEqual((board.order_of("ann"), board.order_of("bob")), ([1, 2, 3], [3, 2, 1]))
        self.assertEqual((board.pins_of("ann"), board.pins_of("bob")), ({}, {}))
        self.assertEqual(board.list_of("bob"), HandList.made(2, (2,), {1: (1, 9), 2: (2, 8), 3: (3, 7)}, {}))

    def test_names_ascending(self):
        board = Board(1)
        for name in ("zoe", "a", "abcdefgh", "ann", "anna"):
            board.open_list(name)
        self.assertEqual(board.names, ["a", "abcdefgh", "ann", "anna", "zoe"])
        board.names.clear()
        self.assertEqual(len(board.names), 5)
        board.close_list("abcdefgh")
        self.assertEqual(board.names, ["a", "ann", "anna", "zoe"])

    def test_a_list_that_is_opened_again_has_no_pins(self):
        board = board_of(1, 2, ann=(1,))
        board.move("ann", 2)
        self.assertIsNone(board.close_list("ann"))
        self.assertEqual(board.names, [])
        board.open_list("ann")
        self.assertEqual((board.order_of("ann"), board.pins_of("ann")), ([1, 2], {}))

    def test_what_is_returned_is_new(self):
        board = board_of(1, 2, ann=(1,))
        board.move("ann", 2)
        before = everything(board)
        board.order_of("ann").clear()
        board.pins_of("ann").clear()
        hand = board.list_of("ann")
        self.assertIs(type(hand), HandList)
        hand.drop(1)
        hand.rule = ()
        self.assertEqual(everything(board), before)
        kinds = [type(found) for found in (board.order_of("ann"), board.pins_of("ann"), board.fields_of(1), len(board))]
        self.assertEqual(kinds, [list, dict, tuple, int])

    def test_a_copy_does_not_change_with_the_board(self):
        board = board_of(1, 2, ann=(1,))
        hand = board.list_of("ann")
        board.move("ann", 2)
        board.drop(1)
        self.assertEqual(hand, filled(1, 2))

    def test_by_name(self):
        board = Board(width=1)
        board.open_list(name="ann", rule=(1,))
        for call in (board.add_item, board.set_fields):
            with self.assertRaises(BadItem) as caught:
                call(row_id=1)
            self.assertEqual(caught.exception.value, (1, ()))
        board.add_item(1, 6)
        board.set_rule(name="ann", rule=(-1,))
        board.move("ann", 1, behind=0)
        board.reset(name="ann")
        self.assertEqual(board.order_of(name="ann") + [board.pins_of(name="ann")], [1, {}])
        self.assertEqual(board.list_of(name="ann"), HandList.made(1, (-1,), {1: (6,)}, {}))
        self.assertEqual(board.fields_of(row_id=1), (6,))
        board.close_list(name="ann")
        self.assertEqual(board.names, [])


class Changes(unittest.TestCase):

    def check(self, board, **orders):
        """Check the orders and pins of all lists."""
        self.assertEqual({name: (board.order_of(name), board.pins_of(name)) for name in board.names}, orders)

    def test_the_store_changes_all_lists(self):
        board = board_of(1, 2, 3, up=(1,), down=(-1,))
        board.move("up", 3)
        self.check(board, up=([3, 1, 2], {3: 0}), down=([3, 2, 1], {}))
        board.add_item(4, 0)
        self.check(board, up=([3, 4, 1, 2], {3: 0}), down=([3, 2, 1, 4], {}))
        board.set_fields(1, 9)
        self.check(board, up=([3, 4, 2, 1], {3: 0}), down=([1, 3, 2, 4], {}))
        board.drop(2, 4)
        self.check(board, up=([3, 1], {}), down=([1, 3], {}))
        self.assertEqual(seen(board)[1:3], (2, {1: (9,), 3: (3,)}))

    def test_one_list_changes_alone(self):
        board = board_of(1, 2, 3, up=(1,), down=(-1,))
        board.move("down", 1, 2)
        self.check(board, up=([1, 2, 3], {}), down=([1, 2, 3], {1: 0, 2: 1}))
        board.set_rule("up", (-1,))
        self.check(board, up=([3, 2, 1], {}), down=([1, 2, 3], {1: 0, 2: 1}))
        board.reset("down", 2)
        self.check(board, up=([3, 2, 1], {}), down=([1, 3, 2], {1: 0}))
        board.move("up", 2, behind=1)
        self.check(board, up=([3, 1, 2], {2: 1}), down=([1, 3, 2], {1: 0}))

    def test_a_list_that_is_closed_is_left_alone(self):
        board = board_of(1, 2, 3, up=(1,), down=(-1,))
        board.move("up", 3)
        board.close_list("up")
        board.drop(1)
        board.undo()
        board.undo()
        self.check(board, up=([3, 1, 2], {3: 0}), down=([3, 2, 1], {}))

    def test_changes_return_nothing(self):
        for change in all_changes() + [lambda board: board.undo()]:
            self.assertIsNone(change(board_of(1, 2, 3, up=(1,), down=(-1,))))
        board = board_of(1)
        board.undo()
        self.assertIsNone(board.redo())


class OneHistory(unittest.TestCase):

    def check_nothing(self, board, call, action):
        before = everything(board)
        with self.assertRaises(NothingToDo) as caught:
            call()
        self.assertIs(type(caught.exception), NothingToDo)
        self.assertEqual(caught.exception.action, action)
        self.assertEqual(everything(board), before)

    def changed(self):
        """Return a board with some changes behind it, and some undone."""
        board = board_of(1, 2, 3, up=(1,), down=(-1,))
        board.move("up", 2)
        board.move("down", 1)
        board.drop(2)
        board.close_list("up")
        board.undo()
        board.undo()
        return board

    def test_nothing_to_do(self):
        board = Board(1)
        self.check_nothing(board, board.undo, "undo")
        self.check_nothing(board, board.redo, "redo")
        board.open_list("ann")
        self.check_nothing(board, board.redo, "redo")
        board.undo()
        self.check_nothing(board, board.undo, "undo")
        board.redo()
        self.check_nothing(board, board.redo, "redo")

    def test_every_change_by_itself(self):
        for number, change in enumerate(all_changes()):
            with self.subTest(number=number):
                board = self.changed()
                past, now, future = everything(board)
                self.assertEqual((len(past), len(future)), (7, 2))
                change(board)
                then = seen(board)
                self.assertEqual(everything(board), ([now] + past, then, []))
                self.check_nothing(board, board.redo, "redo")
                board.undo()
                self.assertEqual(everything(board), (past, now, [then]))
                board.redo()
                self.assertEqual(everything(board), ([now] + past, then, []))

    def test_undo_takes_back_what_a_change_did_to_all_lists(self):
        board = board_of(1, 2, 3, up=(1,), down=(-1,))
        board.move("up", 3)
        board.move("down", 3, behind=1)
        before = seen(board)
        board.drop(3)
        self.assertEqual((board.pins_of("up"), board.pins_of("down")), ({}, {}))
        board.undo()
        self.assertEqual(seen(board), before)
        self.assertEqual((board.pins_of("up"), board.pins_of("down")), ({3: 0}, {3: 1}))

    def test_opening_and_closing(self):
        board = board_of(1, 2)
        board.open_list("ann", rule=(-1,))
        board.move("ann", 1)
        board.close_list("ann")
        self.assertEqual(board.names, [])
        board.undo()
        self.assertEqual((board.names, board.order_of("ann"), board.pins_of("ann")), (["ann"], [1, 2], {1: 0}))
        board.undo()
        self.assertEqual((board.order_of("ann"), board.pins_of("ann")), ([2, 1], {}))
        board.undo()
        self.assertEqual(board.names, [])
        board.undo()
        self.assertEqual(len(board), 1)
        for _ in range(3):
            board.redo()
        self.assertEqual((board.names, board.order_of("ann"), board.pins_of("ann")), (["ann"], [1, 2], {1: 0}))
        board.redo()
        self.assertEqual(board.names, [])

    def test_many_changes(self):
        """Held against a model of each list, and against what the board held before each change."""
        for seed in range(40):
            random = Random(seed)
            board, models, items = Board(1), {}, {}
            past, future = [], []
            for _ in range(30):
                before = (items, {name: model.state() for name, model in models.items()})
                kind, items, models = self.change(random, board, items, models)
                if kind == "undo" and past:
                    future.append(before)
                    items, models = self.remade(past.pop())
                    board.undo()
                elif kind == "redo" and future:
                    past.append(before)
                    items, models = self.remade(future.pop())
                    board.redo()
                elif kind == "done":
                    past.append(before)
                    future = []
                self.assertEqual((board.names, len(board)), (sorted(models), len(items)))
                for name, model in models.items():
                    hand = board.list_of(name)
                    self.assertEqual((hand.rule, items_of(hand), hand.pins), model.state())
                    self.assertEqual(model.items, items)
                    self.assertEqual(board.order_of(name), model.order())
                for row_id, fields in items.items():
                    self.assertEqual(board.fields_of(row_id), fields)

    def remade(self, state):
        items, states = state
        models = {}
        for name, (rule, own, pins) in states.items():
            models[name] = Model(rule)
            models[name].items, models[name].pins = dict(own), dict(pins)
        return items, models

    def change(self, random, board, items, models):
        """Do a change to a board and to new models; return what was done, the new items and the new models."""
        models = self.remade((items, {name: model.state() for name, model in models.items()}))[1]
        kind = random.choice(("put", "put", "drop", "open", "close", "rule", "move", "move", "reset", "undo", "redo"))
        name = random.choice(("a", "b", "c"))
        row_id = random.randrange(1, 7)
        fields = (random.randrange(3),)
        some = random.sample(sorted(items), min(len(items), random.randrange(3)))
        rule = random.choice(((), (1,), (-1,)))
        if kind == "put":
            (board.set_fields if row_id in items else board.add_item)(row_id, *fields)
            items = {**items, row_id: fields}
            for model in models.values():
                model.put_fields(row_id, fields)
        elif kind == "drop":
            board.drop(*some)
            items = {other: items[other] for other in items if other not in some}
            for model in models.values():
                model.drop(some)
        elif kind == "open" and name not in models:
            board.open_list(name, rule=rule)
            models[name] = Model(rule)
            models[name].items = dict(items)
        elif kind == "close" and name in models:
            board.close_list(name)
            del models[name]
        elif kind == "rule" and name in models:
            board.set_rule(name, rule)
            models[name].put_rule(rule)
        elif kind == "move" and name in models and some:
            behind = random.choice([0] + [other for other in items if other not in some])
            board.move(name, *some, behind=behind)
            models[name].move(some, behind)
        elif kind == "reset" and name in models:
            board.reset(name, *some)
            models[name].reset(some)
        else:
            return kind, items, models
        return "done", items, models


if __name__ == "__main__":
    unittest.main()
