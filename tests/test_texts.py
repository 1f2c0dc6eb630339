"""Tests of handsorted.texts: the texts of lists."""

import unittest
from random import Random

from handsorted import texts
from handsorted.errors import BadText
from handsorted.handlist import HandList
from handsorted.texts import list_text, read_list
from tests.lists import filled, held, whole
from tests.samples import any_values
from tests.step_words import is_list_text, nearly

TOP_ID = 10 ** 6
TOP = 10 ** 9


def lines(*found):
    return "\n".join(found)


def pinned():
    """Return a list with the order 4, 1, 3, 2 and two pins."""
    hand = filled((1, 9), (2, 8), (3, 7), (4, 6), rule=(1,), width=2)
    hand.move(4)
    hand.move(3, behind=1)
    return hand


def some_list(seed):
    """Return a list of a few items that were moved by hand."""
    random = Random(seed)
    width = random.choice((1, 2, 2, 4))
    columns = random.sample(range(1, width + 1), random.randrange(width + 1))
    hand = HandList(width, rule=tuple(random.choice((1, -1)) * column for column in columns))
    for row_id in random.sample(range(1, 30), random.randrange(6)):
        hand.add_item(row_id, *[random.randrange(-2, 3) for _ in range(width)])
    for _ in range(random.randrange(4)):
        ids = random.sample(hand.order, random.randrange(min(3, len(hand)) + 1))
        if ids:
            hand.move(*ids, behind=random.choice([0] + [row_id for row_id in hand.order if row_id not in ids]))
    return hand


class Texts(unittest.TestCase):

    def check(self, hand, text):
        before = whole(hand)
        self.assertEqual(list_text(hand), text)
        self.assertEqual(whole(hand), before)
        found = read_list(text)
        self.assertIs(type(found), HandList)
        self.assertEqual(found, hand)
        self.assertEqual(whole(found), ([], held(hand), []))

    def test_the_example(self):
        hand = HandList(1, rule=(1,))
        hand.add_item(10, 5)
        hand.add_item(20, 7)
        hand.move(20)
        self.check(hand, "list 1\nrule 1\nitem 20 7 behind 0\nitem 10 5")

    def test_lists_without_items(self):
        for width in (1, 2, 3, 4):
            self.check(HandList(width), f"list {width}\nrule")
        self.check(HandList(3, rule=(-3, 1)), "list 3\nrule -3 1")

    def test_lists_without_a_rule_or_pins(self):
        self.check(filled(5, -7, rule=()), "list 1\nrule\nitem 1 5\nitem 2 -7")

    def test_pins(self):
        self.check(pinned(), lines("list 2", "rule 1", "item 4 4 6 behind 0", "item 1 1 9", "item 3 3 7 behind 1",
                                   "item 2 2 8"))

    def test_the_greatest_numbers(self):
        hand = HandList(4, rule=(4, -3, 2, -1))
        hand.add_item(TOP_ID, TOP, -TOP, 0, 1)
        hand.add_item(1, -TOP, TOP, 1, 0)
        hand.move(TOP_ID)
        self.check(hand, lines("list 4", "rule 4 -3 2 -1", "item 1000000 1000000000 -1000000000 0 1 behind 0",
                               "item 1 -1000000000 1000000000 1 0"))

    def test_by_name(self):
        hand = pinned()
        self.assertEqual(list_text(hand=hand), list_text(hand))
        self.assertEqual(read_list(text=list_text(hand)), hand)

    def test_there_and_back(self):
        for seed in range(300):
            hand = some_list(seed)
            text = list_text(hand)
            self.check(hand, text)
            self.assertTrue(is_list_text(text))

    def test_a_full_list(self):
        random = Random(3)
        hand = HandList.made(2, (2, -1), {row_id: (random.randrange(9), row_id % 7) for row_id in range(1, 301)}, {})
        for _ in range(60):
            ids = random.sample(hand.order, 4)
            hand.move(*ids[:3], behind=random.choice((0, ids[3])))
        self.check(hand, list_text(hand))

    def test_what_is_read_can_be_changed(self):
        hand, other = pinned(), read_list(list_text(pinned()))
        for each in (hand, other):
            each.rule = (2,)
            each.move(2, behind=3)
        self.assertEqual(hand, other)
        other.undo()
        other.undo()
        self.assertEqual(other, pinned())


class WrongTexts(unittest.TestCase):

    def check(self, *values):
        for value in values:
            with self.subTest(value=value):
                with self.assertRaises(BadText) as caught:
                    read_list(value)
                self.assertIs(type(caught.exception), BadText)
                self.assertIs(caught.exception.value, value)

    def check_rows(self, head, rows, right):
        """Check whether some rows make the text of a list behind a head."""
        text = lines(head, *rows)
        if right:
            self.assertEqual(list_text(read_list(text)), text)
        else:
            self.check(text)

    def test_other_values(self):
        self.check(*any_values(), ["list 1", "rule"], ("list 1\nrule",), {"list 1\nrule": 1}, HandList(1))

    def test_missing_lines(self):
        self.check("", "\n", "list 1", "rule", "list 1\n", "rule\nlist 1", "item 1 5", "list 1\nitem 1 5",
                   "rule\nitem 1 5", "item 1 5\nlist 1\nrule", "list 1\nitem 1 5\nrule")

    def test_lines_too_many(self):
        self.check("list 1\nrule\n", "\nlist 1\nrule", "list 1\n\nrule", "list 1\nrule\n\nitem 1 5",
                   "list 1\nlist 1\nrule", "list 1\nrule\nrule", "list 1\nrule\nitem 1 5\n",
                   "list 1\nrule\nitem 1 5\nrule", "list 1\nrule\n5", "list 1\nrule\nitem 1 5\nlist 1\nrule",
                   "list 1\nrule\nadd 1 5", "list 1\nrule\nbehind 0")

    def test_wrong_heads(self):
        for head in ("list", "list 0", "list 5", "list -1", "list 01", "list 1 1", "list +1", "list x", "List 1",
                     "list 1 behind 0", " list 1", "list 1 ", "list  1", "list1", "lists 1", "list \u0661",
                     "list " + "1" * 60, "list " + "1" * 61, "list 1.", "", "list 1,"):
            self.check(f"{head}\nrule", f"{head}\nrule\nitem 1 5")

    def test_wrong_rules(self):
        for rule in ("rule 0", "rule 3", "rule -3", "rule 1 1", "rule 1 -1", "rule 2 1 2", "rule ", " rule", "rule  1",
                     "rule 1 ", "rule 01", "rule -0", "rule +1", "rule x", "Rule", "rule 1 behind 0", "rule behind 0",
                     "rule1", "rule 1,2", "rules", "", "rule " + "1" * 61, "rule \u0661"):
            self.check(f"list 2\n{rule}", f"list 2\n{rule}\nitem 1 5 6")
        self.check("list 1\nrule 2", "list 3\nrule 4", "list 3\nrule 1 2 -4")

    def test_wrong_items(self):
        for item in ("item", "item 1", "item 1 5", "item 1 5 6 7", "item 0 5 6", "item -1 5 6", "item 1000001 5 6",
                     "item 1 1000000001 0", "item 1 0 -1000000001", "item 1 5 06", "item 01 5 6", "item 1 -0 6",
                     "item 1 +5 6", "item 1 5 x", "item x 5 6", "items 1 5 6", "Item 1 5 6", " item 1 5 6",
                     "item 1 5 6 ", "item  1 5 6", "item 1  5 6", "item 1 5 6 behind", "item behind 0",
                     "item 1 behind 0", "item 1 5 behind 0", "item 1 5 6 behind 0 0", "item 1 5 6 behind x",
                     "item 1 5 6 behind 0 behind 0", "item 1 5 6  behind 0", "item 1 5 6 behind  0",
                     "item 1 5 behind 6 0", "item 1 5 6 Behind 0", "behind 0", "item 1 5 6 behind 00", "1 5 6",
                     "item 1 5 6 behind -0", "item 1 5 " + "1" * 60, "item 1 5 6 behind " + "1" * 61,
                     "item \u0661 5 6", "item 1 5 \u00b2", "item 1,5,6", "item1 5 6", "add 1 5 6", "item 1 (5, 6)"):
            for rows in (item, f"item 4 4 4\n{item}", f"{item}\nitem 7 1 1"):
                self.check(f"list 2\nrule\n{rows}")
        self.check_rows("list 2\nrule", ["item 1 5 6"], True)

    def test_spaces_and_newlines(self):
        text = list_text(pinned())
        self.check(" " + text, text + " ", "\n" + text, text + "\n", text.replace("\n", " "), text.replace(" ", "\n"))
        for at, sign in enumerate(text):
            if sign in " \n":
                for other in (sign * 2, " \n", "\n ", "\t", "\r\n", ""):
                    self.check(text[:at] + other + text[at + 1:])

    def test_the_order_of_the_lines(self):
        rows = ["item 1 1", "item 2 2", "item 3 3"]
        for first in rows:
            for second in rows:
                for third in rows:
                    self.check_rows("list 1\nrule 1", [first, second, third], [first, second, third] == rows)
        self.check_rows("list 1\nrule -1", rows[::-1], True)
        self.check_rows("list 1\nrule -1", rows, False)
        self.check_rows("list 1\nrule", ["item 1 7", "item 2 2"], True)
        self.check_rows("list 1\nrule", ["item 2 2", "item 1 7"], False)

    def test_the_order_of_pinned_lines(self):
        head = "list 1\nrule 1"
        self.check_rows(head, ["item 3 3 behind 0", "item 1 1", "item 2 2"], True)
        self.check_rows(head, ["item 1 1", "item 3 3 behind 0", "item 2 2"], False)
        self.check_rows(head, ["item 1 1", "item 3 3 behind 1", "item 2 2"], True)
        self.check_rows(head, ["item 3 3 behind 0", "item 2 2", "item 1 1"], False)
        self.check_rows(head, ["item 3 3 behind 0", "item 2 2 behind 3", "item 1 1"], True)
        self.check_rows(head, ["item 3 3 behind 0", "item 2 2 behind 0", "item 1 1"], False)

    def test_pins_that_are_not_the_least(self):
        head = "list 1\nrule 1"
        self.check_rows(head, ["item 1 1 behind 0"], False)
        self.check_rows(head, ["item 1 1 behind 0", "item 2 2"], False)
        self.check_rows(head, ["item 1 1", "item 2 2 behind 1"], False)
        self.check_rows(head, ["item 2 2 behind 0", "item 3 3 behind 2", "item 1 1"], False)
        self.check_rows(head, ["item 2 2", "item 3 3", "item 1 1 behind 3"], True)

    def test_pins_that_are_the_least_with_some_favoured_ids(self):
        head = "list 1\nrule"
        self.check_rows(head, ["item 2 2 behind 0", "item 1 1"], True)
        self.check_rows(head, ["item 2 2", "item 1 1 behind 2"], True)
        self.check_rows(head, ["item 2 2 behind 0", "item 1 1 behind 2"], False)
        # The straight sets of the greatest weight are (3, 4) and (1, 2).
        self.check_rows(head, ["item 3 3", "item 4 4", "item 1 1 behind 4", "item 2 2 behind 1"], True)
        self.check_rows(head, ["item 3 3 behind 0", "item 4 4 behind 3", "item 1 1", "item 2 2"], True)
        self.check_rows(head, ["item 3 3", "item 4 4 behind 3", "item 1 1 behind 4", "item 2 2 behind 1"], False)
        self.check_rows(head, ["item 3 3", "item 4 4 behind 3", "item 1 1", "item 2 2 behind 1"], False)

    def test_wrong_anchors(self):
        for anchor in ("1", "2", "9", "-1", "1000001", "9" * 60, "-" + "9" * 60):
            self.check(f"list 1\nrule 1\nitem 3 3 behind {anchor}\nitem 1 1\nitem 2 2")
        self.check("list 1\nrule\nitem 2 2 behind 2\nitem 1 1", "list 1\nrule\nitem 2 2 behind 1\nitem 1 1 behind 2",
                   "list 1\nrule\nitem 1 1 behind 2\nitem 2 2 behind 1")

    def test_ids_twice(self):
        self.check("list 1\nrule\nitem 1 5\nitem 1 5", "list 1\nrule\nitem 1 5\nitem 1 6",
                   "list 1\nrule\nitem 1 5\nitem 2 5\nitem 1 5 behind 2",
                   "list 1\nrule\nitem 2 5 behind 0\nitem 1 5\nitem 2 5")

    def test_more_than_three_hundred_items(self):
        rows = [f"item {row_id} 7" for row_id in range(1, 302)]
        self.check_rows("list 1\nrule 1", rows[:299], True)
        self.check_rows("list 1\nrule 1", rows[:300], True)
        self.check_rows("list 1\nrule 1", rows, False)
        self.check_rows("list 1\nrule 1", rows * 5, False)

    def test_texts_that_differ_a_little(self):
        found = []
        for seed in range(1500):
            random = Random(seed)
            text = list_text(some_list(seed % 200))
            rows = text.split("\n")
            if seed % 3 == 0:
                at = random.randrange(len(rows))
                rows[at] = nearly(random, rows[at])
            elif seed % 3 == 1:
                rows[random.randrange(len(rows))] = random.choice(rows)
            else:
                row = rows.pop(random.randrange(len(rows)))
                rows.insert(random.randrange(len(rows) + 1), row)
            text = lines(*rows)
            found.append(is_list_text(text))
            if found[-1]:
                self.assertEqual(list_text(read_list(text)), text)
            else:
                self.check(text)
        self.assertTrue(50 < sum(found) < len(found) - 500, sum(found))

    def test_every_choice_of_pins(self):
        """All sequences of three items with all anchors that stand directly before them, or none."""
        count = 0
        for rule in ("rule", "rule 1", "rule -2 1"):
            for order in ((1, 2, 3), (1, 3, 2), (2, 1, 3), (2, 3, 1), (3, 1, 2), (3, 2, 1)):
                for picks in range(8):
                    before = 0
                    rows = []
                    for at, row_id in enumerate(order):
                        pin = f" behind {before}" if picks >> at & 1 else ""
                        rows.append(f"item {row_id} {row_id % 2} {row_id // 2}{pin}")
                        before = row_id
                    right = is_list_text(lines("list 2", rule, *rows))
                    count += right
                    self.check_rows(f"list 2\n{rule}", rows, right)
        self.assertGreater(count, 20)

    def test_definitions(self):
        self.assertEqual({texts.list_text.__module__, texts.read_list.__module__}, {"handsorted.texts"})


if __name__ == "__main__":
    unittest.main()
