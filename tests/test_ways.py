"""[3]: ways."""

import unittest

from fieldoffers.ways import all_ways, is_way
from tests.samples import P, Q, WRONG_WAYS

ITEMS = [
    ["first", "short", "common"], [1, 2], ["tab", "blank", "always"],
    ["next", "stay"], ["offer", "letter", "both"], [0, 1],
]


class Ways(unittest.TestCase):
    def test_the_ways_of_the_examples(self):
        self.assertIs(is_way(P), True)
        self.assertIs(is_way(Q), True)

    def test_each_item_at_its_place(self):
        for at, items in enumerate(ITEMS):
            for item in items:
                changed = P[:at] + (item,) + P[at + 1:]
                with self.subTest(changed=changed):
                    self.assertIs(is_way(changed), True)

    def test_items_of_other_places(self):
        for at in range(6):
            for other in range(6):
                for item in ITEMS[other]:
                    if item not in ITEMS[at]:
                        changed = P[:at] + (item,) + P[at + 1:]
                        with self.subTest(changed=changed):
                            self.assertIs(is_way(changed), False)

    def test_values_that_are_no_ways(self):
        for value in WRONG_WAYS:
            with self.subTest(value=value):
                self.assertIs(is_way(value), False)


class AllWays(unittest.TestCase):
    def test_number(self):
        self.assertEqual(len(all_ways()), 216)

    def test_all_are_ways_and_unlike(self):
        self.assertTrue(all(is_way(way) for way in all_ways()))
        self.assertEqual(len(set(all_ways())), 216)

    def test_ascending_by_the_orders_of_the_items(self):
        places = [tuple(items.index(x) for items, x in zip(ITEMS, way)) for way in all_ways()]
        self.assertEqual(places, sorted(places))

    def test_some_places(self):
        ways = all_ways()
        self.assertEqual(ways[0], ("first", 1, "tab", "next", "offer", 0))
        self.assertEqual(ways[1], ("first", 1, "tab", "next", "offer", 1))
        self.assertEqual(ways[2], ("first", 1, "tab", "next", "letter", 0))
        self.assertEqual(ways[6], ("first", 1, "tab", "stay", "offer", 0))
        self.assertEqual(ways[12], ("first", 1, "blank", "next", "offer", 0))
        self.assertEqual(ways[36], ("first", 2, "tab", "next", "offer", 0))
        self.assertEqual(ways[72], ("short", 1, "tab", "next", "offer", 0))
        self.assertEqual(ways[215], ("common", 2, "always", "stay", "both", 1))

    def test_the_list_is_new_each_time(self):
        ways = all_ways()
        ways.clear()
        self.assertEqual(len(all_ways()), 216)


if __name__ == "__main__":
    unittest.main()
