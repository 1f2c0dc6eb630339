"""Tests of handsorted.office."""

import unittest
from random import Random

from handsorted.errors import HandError, NameTaken, TooMany, UnknownName
from handsorted.handlist import HandList
from handsorted.joining import join_lists
from handsorted.office import Office
from tests.lists import filled, held, whole
from tests.samples import any_values

NOT_NAMES = ["", "A", "Ann", "aB", "ann1", "1", "a b", " ", " a", "a ", "a-b", "a_b", "a.b", "a\n", "\n", "abcdefghi",
             "a" * 9, "a" * 1000, "\u00e4", "\u00df", "\u0430", "\u03b1nn", "~", "0", "None"]


def not_names():
    """Return values that are no names; any_values has one that is, and strings that are none."""
    wrong = [value for value in any_values() if value != "a"]
    return NOT_NAMES + wrong + [["a"], ("a",), {"a": 1}, [["a"]], ("a", "b")]


def everything(office):
    """Return all that an office holds, with all that can be undone and redone at its desks."""
    return [whole(office.main()), [(name, whole(office.desk(name))) for name in office.names]]


class Desks(unittest.TestCase):

    def setUp(self):
        self.hand = filled(1, 2, 3)
        self.hand.move(3)
        self.office = Office(self.hand)

    def test_a_new_office(self):
        self.assertEqual(self.office.names, [])
        self.assertEqual(self.office.main(), self.hand)
        self.assertEqual(whole(self.office.main()), ([], held(self.hand), []))

    def test_the_main_list_is_a_copy(self):
        before = self.hand.copied()
        self.hand.move(2)
        self.hand.drop(1)
        self.assertEqual(self.office.main(), before)

    def test_main_returns_a_copy(self):
        main = self.office.main()
        self.assertIs(type(main), HandList)
        self.assertIsNot(main, self.office.main())
        main.drop(1)
        main.rule = ()
        self.assertEqual(self.office.main(), self.hand)

    def test_opening(self):
        self.assertIsNone(self.office.open_desk("ann"))
        desk = self.office.desk("ann")
        self.assertEqual(whole(desk), ([], held(self.hand), []))
        self.assertEqual(self.office.names, ["ann"])
        self.assertEqual(whole(self.office.main()), ([], held(self.hand), []))

    def test_the_names(self):
        for name in ("zoe", "a", "abcdefgh", "zzzzzzzz", "ann", "anna"):
            self.office.open_desk(name)
        self.assertEqual(self.office.names, ["a", "abcdefgh", "ann", "anna", "zoe", "zzzzzzzz"])
        self.office.names.clear()
        self.assertEqual(len(self.office.names), 6)
        with self.assertRaises(AttributeError):
            self.office.names = []

    def test_every_letter(self):
        for letter in "abcdefghijklmnopqrstuvwxyz":
            self.office.open_desk(letter)
        self.assertEqual("".join(self.office.names), "abcdefghijklmnopqrstuvwxyz")

    def test_desk_returns_the_list_itself(self):
        self.office.open_desk("ann")
        desk = self.office.desk("ann")
        self.assertIs(self.office.desk("ann"), desk)
        desk.move(2)
        self.assertEqual(self.office.desk("ann").order, [2, 3, 1])
        self.assertEqual(self.office.main(), self.hand)
        self.assertEqual(self.hand.order, [3, 1, 2])

    def test_desks_share_nothing(self):
        self.office.open_desk("ann")
        self.office.open_desk("bob")
        self.office.desk("ann").drop(1, 2)
        self.assertEqual(self.office.desk("bob"), self.hand)
        self.assertEqual(len(self.office.desk("ann")), 1)

    def test_closing(self):
        self.office.open_desk("ann")
        self.office.open_desk("bob")
        self.office.desk("ann").drop(1)
        self.assertIsNone(self.office.close_desk("ann"))
        self.assertEqual(self.office.names, ["bob"])
        self.office.open_desk("ann")
        self.assertEqual(self.office.desk("ann"), self.hand)

    def test_two_offices_share_nothing(self):
        other = Office(self.hand)
        other.open_desk("ann")
        self.assertEqual(self.office.names, [])

    def test_by_name(self):
        office = Office(hand=self.hand)
        office.open_desk(name="ann")
        self.assertEqual(office.desk(name="ann").order, [3, 1, 2])
        self.assertEqual(office.bring_up(name="ann", prefer="second"), [])
        self.assertEqual(office.hand_in(name="ann", prefer="second"), [])
        office.close_desk(name="ann")
        self.assertEqual(office.names, [])


class Merging(unittest.TestCase):

    def setUp(self):
        self.office = Office(filled(1, 2, 3, 4))
        for name in ("ann", "bob"):
            self.office.open_desk(name)

    def check(self, desk, main, name="ann"):
        self.assertEqual(self.office.desk(name).order, desk)
        self.assertEqual(self.office.main().order, main)

    def test_handing_in(self):
        self.office.desk("ann").move(4)
        self.assertEqual(self.office.hand_in("ann"), [])
        self.check([4, 1, 2, 3], [4, 1, 2, 3])
        self.check([1, 2, 3, 4], [4, 1, 2, 3], "bob")

    def test_bringing_up(self):
        self.office.desk("ann").move(4)
        self.office.hand_in("ann")
        self.office.desk("bob").move(2)
        self.assertEqual(self.office.bring_up("bob"), [])
        self.check([4, 2, 1, 3], [4, 1, 2, 3], "bob")
        self.assertEqual(self.office.hand_in("bob"), [])
        self.check([4, 2, 1, 3], [4, 2, 1, 3], "bob")
        self.check([4, 1, 2, 3], [4, 2, 1, 3])

    def conflict(self):
        """Make an office in which ann has handed in what bob has done in another way."""
        self.office = Office(filled((1, 0), (2, 0), (3, 0), (4, 0), width=2))
        for name in ("ann", "bob"):
            self.office.open_desk(name)
        self.office.desk("ann").move(4)
        self.office.desk("ann").set_fields(2, 2, 9)
        self.office.hand_in("ann")
        self.office.desk("bob").move(4, behind=1)
        self.office.desk("bob").set_fields(2, 2, 8)

    def test_conflicts_when_bringing_up(self):
        for more, fields, order in (({}, (2, 8), [1, 4, 2, 3]), ({"prefer": "first"}, (2, 8), [1, 4, 2, 3]),
                                    ({"prefer": "second"}, (2, 9), [4, 1, 2, 3])):
            self.conflict()
            found = self.office.bring_up("bob", **more)
            self.assertEqual(found, [("fields", 2), ("place", 4)])
            self.assertIs(type(found), list)
            self.check(order, [4, 1, 2, 3], "bob")
            self.assertEqual(self.office.desk("bob").fields_of(2), fields)
            self.assertEqual(self.office.main().fields_of(2), (2, 9))

    def test_conflicts_when_handing_in(self):
        for more, fields, order in (({}, (2, 9), [4, 1, 2, 3]), ({"prefer": "first"}, (2, 9), [4, 1, 2, 3]),
                                    ({"prefer": "second"}, (2, 8), [1, 4, 2, 3])):
            self.conflict()
            self.assertEqual(self.office.hand_in("bob", **more), [("fields", 2), ("place", 4)])
            self.check(order, order, "bob")
            self.check([4, 1, 2, 3], order)
            self.assertEqual(self.office.main().fields_of(2), fields)
            self.assertEqual(self.office.desk("bob"), self.office.main())
            self.assertEqual(self.office.desk("ann").fields_of(2), (2, 9))

    def test_a_conflict_of_rules(self):
        self.office.desk("ann").rule = (-1,)
        self.office.desk("bob").rule = ()
        self.assertEqual(self.office.hand_in("ann"), [])
        self.assertEqual(self.office.bring_up("bob"), [("rule",)])
        self.assertEqual((self.office.desk("bob").rule, self.office.main().rule), ((), (-1,)))

    def test_the_results_are_new_lists_without_a_history(self):
        for merge in (self.office.bring_up, self.office.hand_in):
            old = self.office.desk("ann")
            old.move(4, behind=old.order[0])
            order = old.order
            self.assertIsNotNone(merge("ann"))
            new = self.office.desk("ann")
            self.assertIsNot(new, old)
            self.assertEqual(whole(new), ([], held(new), []))
            new.drop(3)
            self.assertEqual(old.order, order)
            old.move(1, behind=2)
            self.assertNotIn(3, self.office.desk("ann").order)
            new.undo()

    def test_the_main_list_and_the_desk_share_nothing(self):
        self.office.desk("ann").move(4)
        self.office.hand_in("ann")
        self.office.desk("ann").drop(1, 2)
        self.check([4, 3], [4, 1, 2, 3])
        self.office.main().drop(4)
        self.check([4, 3], [4, 1, 2, 3])

    def test_bringing_up_makes_a_new_base(self):
        self.office.desk("ann").add_item(9, 0)
        self.office.hand_in("ann")
        self.office.bring_up("bob")
        self.assertEqual(self.office.desk("bob").order, [9, 1, 2, 3, 4])
        # Dropped at the desk, and in its base: it is dropped from the main list.
        self.office.desk("bob").drop(9)
        self.office.hand_in("bob")
        self.check([1, 2, 3, 4], [1, 2, 3, 4], "bob")

    def test_the_base_is_the_main_list_and_not_the_result(self):
        self.office.desk("bob").add_item(9, 0)
        self.office.bring_up("bob")
        # What only the desk has is new, and handing in adds it.
        self.office.hand_in("bob")
        self.check([9, 1, 2, 3, 4], [9, 1, 2, 3, 4], "bob")
        self.office.bring_up("ann")
        self.check([9, 1, 2, 3, 4], [9, 1, 2, 3, 4])

    def test_handing_in_makes_a_new_base(self):
        self.office.desk("ann").add_item(9, 0)
        self.office.hand_in("ann")
        self.office.desk("ann").drop(9)
        self.office.hand_in("ann")
        self.check([1, 2, 3, 4], [1, 2, 3, 4])

    def test_the_base_does_not_change_with_the_desk(self):
        self.office.hand_in("ann")
        self.office.desk("ann").drop(1)
        self.office.desk("ann").set_fields(2, 9)
        self.office.hand_in("ann")
        self.check([3, 4, 2], [3, 4, 2])
        self.office.bring_up("ann")
        self.office.desk("ann").drop(3)
        self.office.bring_up("ann")
        self.check([4, 2], [3, 4, 2])

    def test_a_desk_without_changes(self):
        before = everything(self.office)
        for merge in (self.office.bring_up, self.office.hand_in, self.office.hand_in, self.office.bring_up):
            self.assertEqual(merge("ann"), [])
            self.assertEqual(everything(self.office), before)

    def change(self, random, hand):
        order = hand.order
        kind = random.choice(("add", "drop", "fields", "rule", "move", "move", "reset", "undo"))
        if kind == "add":
            row_id = random.randrange(1, 9)
            if row_id not in order:
                hand.add_item(row_id, random.randrange(3))
        elif kind == "rule":
            hand.rule = random.choice(((), (1,), (-1,)))
        elif kind == "undo" and whole(hand)[0]:
            hand.undo()
        elif order and kind == "drop":
            hand.drop(random.choice(order))
        elif order and kind == "fields":
            hand.set_fields(random.choice(order), random.randrange(3))
        elif order and kind == "move":
            row_id, behind = random.choice(order), random.choice([0] + order)
            hand.move(row_id, behind=behind if behind != row_id else 0)
        elif order and kind == "reset":
            hand.reset(random.choice(order))

    def test_many_changes(self):
        """Held against three lists for each desk, which join_lists merges."""
        for seed in range(40):
            random = Random(seed)
            main = filled(*[random.randrange(3) for _ in range(4)])
            office = Office(main)
            desks = {}
            for name in ("ann", "bob", "cy"):
                office.open_desk(name)
                desks[name] = [main.copied(), main.copied()]
            for _ in range(25):
                name = random.choice(list(desks))
                base, own = desks[name]
                kind = random.choice(("change", "change", "change", "up", "in"))
                prefer = random.choice(("first", "second"))
                if kind == "change":
                    number = random.randrange(10 ** 6)
                    self.change(Random(number), own)
                    self.change(Random(number), office.desk(name))
                elif kind == "up":
                    joined, told = join_lists(base, own, main, prefer=prefer)
                    self.assertEqual(office.bring_up(name, prefer=prefer), told)
                    desks[name] = [main.copied(), joined]
                else:
                    main, told = join_lists(base, main, own, prefer=prefer)
                    self.assertEqual(office.hand_in(name, prefer=prefer), told)
                    desks[name] = [main.copied(), main.copied()]
                self.assertEqual(everything(office),
                                 [([], held(main), []), [(name, whole(desks[name][1])) for name in sorted(desks)]])


class Errors(unittest.TestCase):

    def setUp(self):
        self.office = Office(filled(1, 2, 3))
        for name in ("ann", "bob"):
            self.office.open_desk(name)
        self.office.desk("ann").move(3)
        self.office.desk("ann").move(2)
        self.office.desk("ann").undo()

    def check(self, error, name, call, **more):
        before = everything(self.office)
        with self.subTest(error=error, name=name):
            with self.assertRaises(HandError) as caught:
                call(name, **more)
            self.assertIs(type(caught.exception), error)
            self.assertIs(caught.exception.name, name)
            self.assertEqual(everything(self.office), before)

    def test_what_is_no_name(self):
        for name in not_names():
            for call in (self.office.open_desk, self.office.desk, self.office.close_desk, self.office.bring_up,
                         self.office.hand_in):
                self.check(UnknownName, name, call)

    def test_names_of_no_desk(self):
        for name in ("a", "an", "anna", "nan", "zoe", "abcdefgh"):
            for call in (self.office.desk, self.office.close_desk, self.office.bring_up, self.office.hand_in):
                self.check(UnknownName, name, call)
            self.check(UnknownName, name, self.office.bring_up, prefer="second")
            self.check(UnknownName, name, self.office.hand_in, prefer="second")

    def test_a_closed_desk(self):
        self.office.close_desk("bob")
        for call in (self.office.desk, self.office.close_desk, self.office.bring_up, self.office.hand_in):
            self.check(UnknownName, "bob", call)

    def test_a_taken_name(self):
        for name in ("ann", "bob"):
            self.check(NameTaken, name, self.office.open_desk)

    def test_too_many(self):
        self.office = Office(HandList.made(1, (1,), {row_id: (0,) for row_id in range(1, 291)}, {}))
        for name in ("ann", "bob"):
            self.office.open_desk(name)
        for row_id in range(291, 298):
            self.office.desk("ann").add_item(row_id, 1)
            self.office.desk("bob").add_item(row_id + 10, 2)
        self.assertEqual(self.office.hand_in("ann"), [])
        before = [self.office.main(), self.office.desk("ann").copied(), self.office.desk("bob").copied()]
        for merge in (self.office.bring_up, self.office.hand_in):
            for prefer in ("first", "second"):
                with self.assertRaises(HandError) as caught:
                    merge("bob", prefer=prefer)
                self.assertIs(type(caught.exception), TooMany)
                self.assertEqual(caught.exception.count, 304)
                after = [self.office.main(), self.office.desk("ann"), self.office.desk("bob")]
                self.assertEqual(after, before)
        self.office.desk("bob").undo()
        self.assertEqual(len(self.office.desk("bob")), 296)
        # The base is as before, too: four items fewer are not too many.
        self.office.desk("bob").drop(301, 302, 303)
        self.assertEqual(self.office.hand_in("bob"), [])
        self.assertEqual(len(self.office.main()), 300)

    def test_definitions(self):
        self.assertEqual(Office.__module__, "handsorted.office")
        for name in ("main", "names", "open_desk", "desk", "close_desk", "bring_up", "hand_in"):
            self.assertIn(name, vars(Office))


if __name__ == "__main__":
    unittest.main()
