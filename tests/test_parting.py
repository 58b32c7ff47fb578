"""Points 7 and 8: shares, and the rolls told again from them; and point 1 over them."""

import copy
import unittest

from clubroll.parting import rolls_from, shares
from samples import LARGE, comes_ahead, difference, in_order, lists_over, rolls_over

CLUBS = [["ann", "bea", "cy"], ["bea", "dot"], [], ["ann", "bea", "cy"]]
CLUB_SHARES = [([0, 3], ["ann", "cy"]), ([0, 1, 3], ["bea"]), ([1], ["dot"])]

SMALL = list(lists_over(rolls_over(["ann", "an", "b"]), 3)) + list(lists_over(rolls_over(["x", "xa", "xb", "y"]), 2))

# Rolls beside their shares.
EXAMPLES = (
    (CLUBS, CLUB_SHARES),
    ([], []),
    ([[]], []),
    ([[], [], []], []),
    ([["ann"]], [([0], ["ann"])]),
    ([["an", "ann", "ao"]], [([0], ["an", "ann", "ao"])]),
    ([[], ["ann"], []], [([1], ["ann"])]),
    ([["ann"], ["ann"]], [([0, 1], ["ann"])]),
    ([["bea"], ["ann"]], [([1], ["ann"]), ([0], ["bea"])]),
    # shares whose names lie among one another
    ([["a", "c", "e"], ["b", "d"]], [([0], ["a", "c", "e"]), ([1], ["b", "d"])]),
    ([["b", "d"], ["a", "b", "c", "d"]], [([1], ["a", "c"]), ([0, 1], ["b", "d"])]),
    # places of two figures stand in the order of numbers, not of texts
    ([["ann"]] + [[]] * 8 + [["ann"], ["ann"]], [([0, 9, 10], ["ann"])]),
    # 1 and 2 are other places than 12
    ([[], ["a"], ["a"]] + [[]] * 9 + [["b"]], [([1, 2], ["a"]), ([12], ["b"])]),
)


def places_of(name, rolls):
    return [place for place, roll in enumerate(rolls) if name in roll]


def shares_of(rolls):
    """The shares, told name by name: each one brings its share, unless a name ahead of it has brought it."""
    names = in_order({name for roll in rolls for name in roll})
    places = [places_of(name, rolls) for name in names]
    told = []
    for number, name in enumerate(names):
        if places[number] not in places[:number]:
            told.append((places[number], [other for spot, other in enumerate(names) if places[spot] == places[number]]))
    return told


class Shares(unittest.TestCase):
    """Point 7."""

    def test_the_example_of_the_document(self):
        rolls = [["ann", "bea", "cy"], ["bea", "dot"], [], ["ann", "bea", "cy"]]
        self.assertEqual(shares(rolls), [([0, 3], ["ann", "cy"]), ([0, 1, 3], ["bea"]), ([1], ["dot"])])

    def test_examples(self):
        for rolls, wanted in EXAMPLES:
            with self.subTest(rolls=rolls):
                self.assertEqual(shares(rolls), wanted)

    def test_small_lists_in_every_way(self):
        for rolls in SMALL:
            with self.subTest(rolls=rolls):
                self.assertEqual(shares(rolls), shares_of(rolls))

    def test_large_lists(self):
        for title, rolls in LARGE.items():
            with self.subTest(title=title):
                self.assertIsNone(difference(shares(rolls), shares_of(rolls)))

    def test_what_each_share_holds(self):
        for title, rolls in LARGE.items():
            with self.subTest(title=title):
                parts = shares(rolls)
                met = [name for places, roll in parts for name in roll]
                self.assertIsNone(difference(in_order(met), in_order({name for roll in rolls for name in roll})))
                for places, roll in parts:
                    self.assertTrue(roll)
                    self.assertTrue(all(places_of(name, rolls) == places for name in roll))
                for (ahead, roll), (behind, other) in zip(parts, parts[1:]):
                    self.assertTrue(comes_ahead(roll[0], other[0]))

    def test_the_kinds(self):
        self.assertIs(type(shares([])), list)
        told = shares(CLUBS)
        self.assertIs(type(told), list)
        for share in told:
            self.assertIs(type(share), tuple)
            self.assertEqual([type(half) for half in share], [list, list])
            self.assertEqual({type(place) for place in share[0]}, {int})


class RollsFrom(unittest.TestCase):
    """Point 8."""

    def test_examples(self):
        for rolls, parts in EXAMPLES:
            with self.subTest(rolls=rolls):
                self.assertEqual(rolls_from(parts, len(rolls)), rolls)

    def test_empty_rolls(self):
        for count in (0, 1, 2, 100):
            with self.subTest(count=count):
                self.assertEqual(rolls_from([], count), [[]] * count)
        self.assertEqual(rolls_from([([1], ["ann"])], 4), [[], ["ann"], [], []])

    def test_small_lists_in_every_way(self):
        for rolls in SMALL:
            with self.subTest(rolls=rolls):
                self.assertEqual(rolls_from(shares_of(rolls), len(rolls)), rolls)
                self.assertEqual(rolls_from(shares(rolls), len(rolls)), rolls)

    def test_large_lists(self):
        for title, rolls in LARGE.items():
            with self.subTest(title=title):
                self.assertIsNone(difference(rolls_from(shares_of(rolls), len(rolls)), rolls))
                self.assertIsNone(difference(rolls_from(shares(rolls), len(rolls)), rolls))

    def test_the_kinds(self):
        self.assertIs(type(rolls_from([], 0)), list)
        told = rolls_from(CLUB_SHARES, 4)
        self.assertIs(type(told), list)
        self.assertEqual([type(roll) for roll in told], [list] * 4)


class NothingChanged(unittest.TestCase):
    """Point 1: nothing that is handed in is changed, nor through the answer."""

    def test_the_rolls_and_the_shares_stay_as_they_were(self):
        for rolls in SMALL + list(LARGE.values()):
            handed = copy.deepcopy(rolls)
            parts = shares(handed)
            self.assertIsNone(difference(handed, rolls))
            kept = copy.deepcopy(parts)
            rolls_from(parts, len(rolls))
            self.assertIsNone(difference(parts, kept))

    def test_the_shares_are_lists_of_their_own(self):
        for rolls, wanted in EXAMPLES:
            with self.subTest(rolls=rolls):
                handed = copy.deepcopy(rolls)
                told = shares(handed)
                for places, roll in told:
                    places.append(99)
                    roll.append("zzz")
                # Each list was lengthened once: no two shares hold the same one.
                self.assertEqual(told, [(places + [99], roll + ["zzz"]) for places, roll in wanted])
                self.assertEqual(handed, rolls)
                self.assertEqual(shares(handed), wanted)

    def test_the_rolls_told_again_are_lists_of_their_own(self):
        for rolls, parts in EXAMPLES:
            with self.subTest(rolls=rolls):
                handed = copy.deepcopy(parts)
                told = rolls_from(handed, len(rolls))
                for roll in told:
                    roll.append("zzz")
                self.assertEqual(told, [roll + ["zzz"] for roll in rolls])
                self.assertEqual(handed, parts)
                self.assertEqual(rolls_from(handed, len(rolls)), rolls)


if __name__ == "__main__":
    unittest.main()
