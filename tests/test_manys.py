"""Point 6: what is told of any number of rolls; and point 1 over it."""

import copy
import itertools
import unittest

from clubroll.manys import in_all, in_any, in_just
from samples import LARGE, difference, in_order, lists_over, rolls_over

CLUBS = [["ann", "bea", "cy"], ["bea", "dot"], [], ["ann", "bea", "cy"]]

SMALL = list(lists_over(rolls_over(["ann", "an", "b"]), 3))


def times_met(rolls):
    """Each name that is on any of the rolls, in order, beside how many of them it is on."""
    names = in_order({name for roll in rolls for name in roll})
    return [(name, sum(name in roll for roll in rolls)) for name in names]


def asked_of(rolls):
    """All that can be asked of the rolls: what was asked, and the answer."""
    told = [("in_any", in_any(rolls)), ("in_all", in_all(rolls))]
    for count in counts_round(rolls):
        told.append((f"in_just {count}", in_just(rolls, count)))
    return told


def wanted_of(rolls):
    met = times_met(rolls)
    wanted = [
        ("in_any", [name for name, times in met]),
        ("in_all", [name for name, times in met if times == len(rolls)]),
    ]
    for count in counts_round(rolls):
        wanted.append((f"in_just {count}", [name for name, times in met if times == count]))
    return wanted


def counts_round(rolls):
    return [-10 ** 30, -len(rolls)] + list(range(-2, len(rolls) + 3)) + [10 ** 30]


class AnyNumber(unittest.TestCase):
    def test_an_example(self):
        self.assertEqual(in_any(CLUBS), ["ann", "bea", "cy", "dot"])
        self.assertEqual(in_all(CLUBS), [])
        self.assertEqual(in_all([CLUBS[0], CLUBS[1], CLUBS[3]]), ["bea"])
        self.assertEqual(in_just(CLUBS, 1), ["dot"])
        self.assertEqual(in_just(CLUBS, 2), ["ann", "cy"])
        self.assertEqual(in_just(CLUBS, 3), ["bea"])

    def test_a_name_on_none_is_never_told(self):
        for rolls in (CLUBS, [], [[]], [[], []], [["ann"]], [["ann"], []]):
            for count in (0, -1, -2, -4, -100):
                with self.subTest(rolls=rolls, count=count):
                    self.assertEqual(in_just(rolls, count), [])

    def test_a_number_above_that_of_the_rolls(self):
        for rolls in (CLUBS, [], [[]], [["ann"]], [["ann"], ["ann"]]):
            for above in (1, 2, 100, 10 ** 30):
                with self.subTest(rolls=rolls, above=above):
                    self.assertEqual(in_just(rolls, len(rolls) + above), [])

    def test_no_rolls(self):
        self.assertEqual(in_any([]), [])
        self.assertEqual(in_all([]), [])
        for count in (-1, 0, 1):
            with self.subTest(count=count):
                self.assertEqual(in_just([], count), [])

    def test_one_roll(self):
        for roll in ([], ["ann"], ["an", "ann", "ao"]):
            with self.subTest(roll=roll):
                self.assertEqual(in_any([roll]), roll)
                self.assertEqual(in_all([roll]), roll)
                self.assertEqual(in_just([roll], 1), roll)

    def test_equal_rolls_count_as_the_rolls_that_they_are(self):
        roll = ["an", "ann"]
        for rolls in ([roll, roll, roll], [["an", "ann"], ["an", "ann"], ["an", "ann"]]):
            self.assertEqual(in_any(rolls), roll)
            self.assertEqual(in_all(rolls), roll)
            self.assertEqual([in_just(rolls, count) for count in range(5)], [[], [], [], roll, []])

    def test_an_empty_roll_leaves_no_name_on_all(self):
        self.assertEqual(in_all([["ann"], []]), [])
        self.assertEqual(in_all([[], ["ann"]]), [])

    def test_small_lists_in_every_way(self):
        for rolls in SMALL:
            with self.subTest(rolls=rolls):
                self.assertEqual(asked_of(rolls), wanted_of(rolls))

    def test_large_lists(self):
        for title, rolls in LARGE.items():
            with self.subTest(title=title):
                self.assertIsNone(difference(asked_of(rolls), wanted_of(rolls)))

    def test_the_order_of_the_rolls_makes_no_difference(self):
        told = asked_of(CLUBS)
        for changed in itertools.permutations(CLUBS):
            with self.subTest(changed=changed):
                self.assertEqual(asked_of(list(changed)), told)
        for title, rolls in LARGE.items():
            with self.subTest(title=title):
                self.assertIsNone(difference(asked_of(rolls[::-1]), asked_of(rolls)))

    def test_the_answer_is_a_list(self):
        for rolls in ([], [[]], [["ann"]], CLUBS):
            for asked, names in asked_of(rolls):
                with self.subTest(rolls=rolls, asked=asked):
                    self.assertIs(type(names), list)


class NothingChanged(unittest.TestCase):
    """Point 1: nothing that is handed in is changed, nor through the answer."""

    def test_the_rolls_stay_as_they_were(self):
        for rolls in SMALL + list(LARGE.values()):
            handed = copy.deepcopy(rolls)
            asked_of(handed)
            self.assertIsNone(difference(handed, rolls))

    def test_the_answer_is_a_list_of_its_own(self):
        for rolls in ([], [[]], [["ann"]], [["ann"], ["ann"]], CLUBS):
            with self.subTest(rolls=rolls):
                handed = copy.deepcopy(rolls)
                for asked, names in asked_of(handed):
                    names.append("zzz")
                self.assertEqual(handed, rolls)
                self.assertEqual(asked_of(handed), wanted_of(rolls))


if __name__ == "__main__":
    unittest.main()
