"""Point 9: a list of names that is no roll is refused with NoRoll, in whichever place it stands."""

import copy
import unittest

from clubroll.errors import NoRoll
from clubroll.manys import in_all, in_any, in_just
from clubroll.parting import shares
from clubroll.twos import apart, both, less, pairs, union
from samples import LARGE, MOST, NO_ROLLS, difference

TWOS = (union, both, less, apart, pairs)
MANYS = (in_any, in_all, shares)

# Beside these a list that is no roll makes no difference to some answers; it is refused all the same.
BESIDE = ([], ["ann"], ["zzz"], ["ann", "bea", "cy"], MOST)


def counts_round(rolls):
    return (-10 ** 30, -1, 0, 1, 2, len(rolls) - 1, len(rolls), len(rolls) + 1, 10 ** 30)


class Refused(unittest.TestCase):
    def refused(self, asked, *handed):
        kept = copy.deepcopy(handed)
        with self.assertRaises(NoRoll) as caught:
            asked(*handed)
        self.assertIs(type(caught.exception), NoRoll)
        # What is handed in stays as it was, where it is refused too.
        self.assertIsNone(difference(handed, kept))

    def refused_by_all(self, rolls):
        for asked in MANYS:
            with self.subTest(asked=asked.__name__):
                self.refused(asked, rolls)
        for count in counts_round(rolls):
            with self.subTest(asked="in_just", count=count):
                self.refused(in_just, rolls, count)

    def test_as_one_of_two(self):
        for asked in TWOS:
            for names in NO_ROLLS:
                for roll in BESIDE:
                    with self.subTest(asked=asked.__name__, names=names[:5], roll=roll[:5]):
                        self.refused(asked, list(names), list(roll))
                        self.refused(asked, list(roll), list(names))

    def test_as_both_of_two(self):
        for asked in TWOS:
            for names in NO_ROLLS:
                with self.subTest(asked=asked.__name__, names=names[:5]):
                    self.refused(asked, list(names), list(names))
                    self.refused(asked, list(names), list(NO_ROLLS[0]))

    def test_alone(self):
        for names in NO_ROLLS:
            with self.subTest(names=names[:5]):
                self.refused_by_all([list(names)])

    def test_in_each_place_of_few(self):
        for names in NO_ROLLS:
            for roll in BESIDE:
                for place in range(3):
                    with self.subTest(names=names[:5], roll=roll[:5], place=place):
                        rolls = [list(roll) for number in range(3)]
                        rolls[place] = list(names)
                        self.refused_by_all(rolls)

    def test_in_each_place_of_a_hundred(self):
        for place in range(100):
            with self.subTest(place=place):
                rolls = [["ann", "bea"] for number in range(100)]
                rolls[place] = ["bea", "ann"]
                self.refused_by_all(rolls)

    def test_at_either_end_of_large_lists(self):
        for title, rolls in LARGE.items():
            for names in (["ann", "ann"], MOST[:-2] + [MOST[-1], MOST[-2]]):
                with self.subTest(title=title, names=names[:5]):
                    self.refused_by_all([list(names)] + rolls)
                    self.refused_by_all(rolls + [list(names)])

    def test_more_than_one_in_a_list(self):
        self.refused_by_all([["b", "a"], ["a", "b"], ["b", "b"]])
        self.refused_by_all([["b", "a"], ["b", "a"]])


class NotRefused(unittest.TestCase):
    def test_rolls_of_which_one_is_out_of_order_with_the_other(self):
        self.assertEqual(union(["bea"], ["ann"]), ["ann", "bea"])
        self.assertEqual(in_any([["bea"], ["ann"], ["ann"]]), ["ann", "bea"])
        self.assertEqual(shares([["bea"], ["ann"]]), [([1], ["ann"]), ([0], ["bea"])])

    def test_empty_ones(self):
        for asked in TWOS:
            with self.subTest(asked=asked.__name__):
                self.assertEqual(asked([], []), [])
        for asked in MANYS:
            for rolls in ([], [[]], [[], []]):
                with self.subTest(asked=asked.__name__, rolls=rolls):
                    self.assertEqual(asked(rolls), [])
        for rolls in ([], [[]], [[], []]):
            for count in counts_round(rolls):
                with self.subTest(rolls=rolls, count=count):
                    self.assertEqual(in_just(rolls, count), [])

    def test_large_ones(self):
        for title, rolls in LARGE.items():
            for asked in MANYS:
                with self.subTest(title=title, asked=asked.__name__):
                    asked(rolls)


if __name__ == "__main__":
    unittest.main()
