"""Points 1, 2 and 3: names, their order, and rolls."""

import itertools
import unittest

from clubroll.rolls import is_roll, rolled
from samples import comes_ahead, lists_over, names_over

ROLLS = (
    [],
    ["ann"],
    ["a"],
    ["a", "z"],
    ["an", "ann"],
    ["ann", "ao"],
    ["an", "ann", "ao"],
    ["ann", "bea", "cy", "dot"],
    ["a", "aa", "aaa", "ab", "b", "ba"],
    ["zoe", "zoea", "zz"],
    ["abcdefghijklmnopqrstuvwxyz", "b"],
    list("abcdefghijklmnopqrstuvwxyz"),
)

# Each list that is no roll, beside the roll that it is made into.
NO_ROLLS = (
    # two neighbours changed about: of two, at the beginning, in the middle, at the end
    (["ann", "an"], ["an", "ann"]),
    (["ao", "ann"], ["ann", "ao"]),
    (["z", "a"], ["a", "z"]),
    (["b", "abcdefghijklmnopqrstuvwxyz"], ["abcdefghijklmnopqrstuvwxyz", "b"]),
    (["bea", "ann", "cy", "dot"], ["ann", "bea", "cy", "dot"]),
    (["ann", "cy", "bea", "dot"], ["ann", "bea", "cy", "dot"]),
    (["ann", "bea", "dot", "cy"], ["ann", "bea", "cy", "dot"]),
    # a name twice, beside itself: alone, at the beginning, in the middle, at the end
    (["ann", "ann"], ["ann"]),
    (["ann", "ann", "bea", "cy"], ["ann", "bea", "cy"]),
    (["ann", "bea", "bea", "cy"], ["ann", "bea", "cy"]),
    (["ann", "bea", "cy", "cy"], ["ann", "bea", "cy"]),
    # names more than once, far apart
    (["ann", "bea", "cy", "ann"], ["ann", "bea", "cy"]),
    (["cy", "ann", "bea", "cy", "ann", "cy"], ["ann", "bea", "cy"]),
    # the same name all through
    (["ann"] * 3, ["ann"]),
    (["z"] * 50, ["z"]),
    # wholly the other way about
    (["dot", "cy", "bea", "ann"], ["ann", "bea", "cy", "dot"]),
    # short names are not ahead of long ones for their length
    (["b", "aaa"], ["aaa", "b"]),
    (["zz", "b", "aaa", "an", "b", "a"], ["a", "aaa", "an", "b", "zz"]),
)


class Order(unittest.TestCase):
    """Point 1: the order of names."""

    def test_examples_of_the_document(self):
        self.assertIs(is_roll(["an", "ann"]), True)
        self.assertIs(is_roll(["ann", "ao"]), True)
        self.assertIs(is_roll(["ann", "an"]), False)
        self.assertIs(is_roll(["ao", "ann"]), False)
        self.assertEqual(rolled(["ao", "ann", "an"]), ["an", "ann", "ao"])

    def test_two_names_in_every_way(self):
        names = names_over("amz", 3)
        for one, other in itertools.product(names, repeat=2):
            with self.subTest(one=one, other=other):
                self.assertIs(is_roll([one, other]), comes_ahead(one, other))
                if comes_ahead(one, other):
                    self.assertEqual(rolled([one, other]), [one, other])
                    self.assertEqual(rolled([other, one]), [one, other])

    def test_every_letter_against_every_letter(self):
        for one, other in itertools.product("abcdefghijklmnopqrstuvwxyz", repeat=2):
            with self.subTest(one=one, other=other):
                self.assertIs(is_roll([one, other]), comes_ahead(one, other))
                self.assertIs(is_roll(["x" + one, "x" + other]), comes_ahead(one, other))


class IsRoll(unittest.TestCase):
    """Point 2: which list of names is a roll."""

    def test_rolls(self):
        for names in ROLLS:
            with self.subTest(names=names):
                self.assertIs(is_roll(names), True)

    def test_no_rolls(self):
        for names, roll in NO_ROLLS:
            with self.subTest(names=names):
                self.assertIs(is_roll(names), False)

    def test_small_lists_in_every_way(self):
        for names in lists_over(["a", "an", "ann", "ao", "b"], 4):
            with self.subTest(names=names):
                wanted = all(comes_ahead(one, other) for one, other in zip(names, names[1:]))
                self.assertIs(is_roll(names), wanted)

    def test_a_fault_at_any_place_of_a_long_list(self):
        roll = sorted(names_over("abcd", 3))
        self.assertIs(is_roll(roll), True)
        for place in range(len(roll) - 1):
            with self.subTest(place=place):
                changed = roll[:place] + [roll[place + 1], roll[place]] + roll[place + 2:]
                self.assertIs(is_roll(changed), False)
                twice = roll[:place + 1] + roll[place:]
                self.assertIs(is_roll(twice), False)


class Rolled(unittest.TestCase):
    """Point 3: the roll that any list of names is made into."""

    def test_a_roll_is_made_into_itself(self):
        for names in ROLLS:
            with self.subTest(names=names):
                self.assertEqual(rolled(names), names)

    def test_no_rolls(self):
        for names, roll in NO_ROLLS:
            with self.subTest(names=names):
                self.assertEqual(rolled(names), roll)

    def test_the_answer_is_a_list(self):
        for names in ([], ["ann"], ["b", "a", "b"]):
            with self.subTest(names=names):
                self.assertIs(type(rolled(names)), list)

    def test_small_lists_in_every_way(self):
        ordered = ["a", "an", "ann", "ao", "b"]
        for names in lists_over(ordered, 4):
            with self.subTest(names=names):
                self.assertEqual(rolled(names), [name for name in ordered if name in names])

    def test_a_long_list(self):
        names = names_over("zyxw", 4)
        roll = rolled(names + names[::-1] + names[::3])
        self.assertEqual(len(roll), len(names))
        self.assertEqual(set(roll), set(names))
        for one, other in zip(roll, roll[1:]):
            self.assertTrue(comes_ahead(one, other))


class NothingChanged(unittest.TestCase):
    """Point 1: nothing that is handed in is changed."""

    def test_is_roll_and_rolled_leave_the_list_as_it_was(self):
        for names in list(ROLLS) + [names for names, roll in NO_ROLLS]:
            for asked in (is_roll, rolled):
                with self.subTest(asked=asked.__name__, names=names):
                    handed = list(names)
                    asked(handed)
                    self.assertEqual(handed, names)

    def test_the_roll_is_a_list_of_its_own(self):
        for names in ROLLS:
            with self.subTest(names=names):
                handed = list(names)
                rolled(handed).append("zzz")
                self.assertEqual(handed, names)

    def test_asked_twice_the_answer_is_the_same(self):
        names = ["cy", "ann", "cy"]
        rolled(names).append("zzz")
        self.assertEqual(rolled(names), ["ann", "cy"])
        self.assertIs(is_roll(names), False)
        self.assertIs(is_roll(names), False)


if __name__ == "__main__":
    unittest.main()
