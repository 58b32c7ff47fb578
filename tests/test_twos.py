"""Points 4 and 5: what is made of two rolls; and point 1 over it."""

import itertools
import unittest

from clubroll.twos import apart, both, less, pairs, union
from samples import MOST, difference, in_order, many_names, rolls_over

MADE = (union, both, less, apart)

# Which names each of the four has, by whether a name is on the one and on the other.
WANTED = {
    "union": {(True, True), (True, False), (False, True)},
    "both": {(True, True)},
    "less": {(True, False)},
    "apart": {(True, False), (False, True)},
}

SMALL = rolls_over(["a", "an", "ann", "ao", "b"])

# Two rolls, and of them the union, both, less and apart.
EXAMPLES = (
    ([], [], [], [], [], []),
    (["ann"], [], ["ann"], [], ["ann"], ["ann"]),
    ([], ["ann"], ["ann"], [], [], ["ann"]),
    (["ann"], ["ann"], ["ann"], ["ann"], [], []),
    (["ann"], ["bea"], ["ann", "bea"], [], ["ann"], ["ann", "bea"]),
    (["bea"], ["ann"], ["ann", "bea"], [], ["bea"], ["ann", "bea"]),
    (["an", "ao"], ["ann"], ["an", "ann", "ao"], [], ["an", "ao"], ["an", "ann", "ao"]),
    (["ann", "bea", "cy"], ["bea", "dot"], ["ann", "bea", "cy", "dot"], ["bea"], ["ann", "cy"], ["ann", "cy", "dot"]),
    (["ann", "bea", "cy"], ["bea"], ["ann", "bea", "cy"], ["bea"], ["ann", "cy"], ["ann", "cy"]),
    (["bea"], ["ann", "bea", "cy"], ["ann", "bea", "cy"], ["bea"], [], ["ann", "cy"]),
    (["b"], ["aaa", "zz"], ["aaa", "b", "zz"], [], ["b"], ["aaa", "b", "zz"]),
)

LARGE = (
    (MOST, MOST),
    (MOST, []),
    ([], MOST),
    (MOST[::2], MOST[1::2]),
    (MOST[:200], MOST[100:]),
    (MOST[200:], MOST[:100]),
    (MOST[::3], MOST[::5]),
    (MOST, MOST[-1:]),
    (MOST[:1], MOST),
)


def made_of(asked, one, other):
    names = in_order(set(one + other))
    return [name for name in names if (name in one, name in other) in WANTED[asked.__name__]]


def pairs_of(one, other):
    return [(one[number // len(other)], other[number % len(other)]) for number in range(len(one) * len(other))]


class TwoRolls(unittest.TestCase):
    """Point 4."""

    def test_examples(self):
        for one, other, *wanted in EXAMPLES:
            for asked, roll in zip(MADE, wanted):
                with self.subTest(asked=asked.__name__, one=one, other=other):
                    self.assertEqual(asked(one, other), roll)

    def test_small_rolls_in_every_way(self):
        for asked in MADE:
            for one, other in itertools.product(SMALL, repeat=2):
                with self.subTest(asked=asked.__name__, one=one, other=other):
                    self.assertEqual(asked(one, other), made_of(asked, one, other))

    def test_large_rolls(self):
        for asked in MADE:
            for number, (one, other) in enumerate(LARGE):
                with self.subTest(asked=asked.__name__, number=number):
                    self.assertIsNone(difference(asked(one, other), made_of(asked, one, other)))

    def test_one_list_handed_in_twice(self):
        roll = ["an", "ann", "ao"]
        self.assertEqual(union(roll, roll), ["an", "ann", "ao"])
        self.assertEqual(both(roll, roll), ["an", "ann", "ao"])
        self.assertEqual(less(roll, roll), [])
        self.assertEqual(apart(roll, roll), [])

    def test_the_answer_is_a_list(self):
        for asked in MADE:
            for one, other in (([], []), (["a"], []), ([], ["a"]), (["a"], ["a"])):
                with self.subTest(asked=asked.__name__, one=one, other=other):
                    self.assertIs(type(asked(one, other)), list)


class Pairs(unittest.TestCase):
    """Point 5."""

    def test_examples(self):
        self.assertEqual(
            pairs(["an", "ann"], ["ann", "bea", "cy"]),
            [("an", "ann"), ("an", "bea"), ("an", "cy"), ("ann", "ann"), ("ann", "bea"), ("ann", "cy")],
        )
        self.assertEqual(pairs(["bea"], ["ann"]), [("bea", "ann")])

    def test_a_name_with_itself(self):
        self.assertEqual(pairs(["ann"], ["ann"]), [("ann", "ann")])
        self.assertEqual(pairs(["a", "b"], ["a", "b"]), [("a", "a"), ("a", "b"), ("b", "a"), ("b", "b")])

    def test_an_empty_roll_has_no_pairs(self):
        for one, other in (([], []), ([], ["ann", "bea"]), (["ann", "bea"], [])):
            with self.subTest(one=one, other=other):
                self.assertEqual(pairs(one, other), [])

    def test_small_rolls_in_every_way(self):
        for one, other in itertools.product(SMALL, repeat=2):
            with self.subTest(one=one, other=other):
                self.assertEqual(pairs(one, other), pairs_of(one, other))

    def test_large_rolls(self):
        most = many_names(110)
        beside = (most, MOST[200:], MOST[:115], most[:1], most[-1:])
        for one, other in [(most, roll) for roll in beside] + [(roll, most) for roll in beside]:
            with self.subTest(one=len(one), other=len(other)):
                self.assertIsNone(difference(pairs(one, other), pairs_of(one, other)))

    def test_the_kinds(self):
        told = pairs(["ann"], ["bea"])
        self.assertIs(type(told), list)
        self.assertIs(type(told[0]), tuple)


class NothingChanged(unittest.TestCase):
    """Point 1: nothing that is handed in is changed, nor through the answer."""

    def test_the_rolls_stay_as_they_were(self):
        for asked in MADE + (pairs,):
            for one, other in itertools.product(SMALL[::3] + [SMALL[-1]], repeat=2):
                with self.subTest(asked=asked.__name__, one=one, other=other):
                    handed_one, handed_other = list(one), list(other)
                    asked(handed_one, handed_other)
                    self.assertEqual((handed_one, handed_other), (one, other))

    def test_the_answer_is_a_list_of_its_own(self):
        for asked in MADE + (pairs,):
            for one, other in (([], []), (["ann"], []), ([], ["ann"]), (["ann"], ["ann"])):
                with self.subTest(asked=asked.__name__, one=one, other=other):
                    handed_one, handed_other = list(one), list(other)
                    first = asked(handed_one, handed_other)
                    wanted = list(first)
                    first.append("zzz")
                    self.assertEqual((handed_one, handed_other), (one, other))
                    self.assertEqual(asked(handed_one, handed_other), wanted)


if __name__ == "__main__":
    unittest.main()
