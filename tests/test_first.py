"""first and isfirst: where a pair ends, going down."""

import unittest

from tests.helper import ALL_N, ask, last, slow_down, slow_one, slow_pairs


def slow_first(n, one, at):
    steps = 0
    while slow_down(n, one, at)[1] < at[1]:
        at = slow_down(n, one, at)
        steps += 1
    return [steps, *at]


class First(unittest.TestCase):
    def test_counts_the_steps_and_tells_where_they_end(self):
        self.assertEqual(last(("begin", 2), ("pair", 75, 53), ("first",)), [2, 3, 1])
        self.assertEqual(last(("begin", 2), ("pair", 5, 3), ("first",)), [1, 3, 1])

    def test_a_first_one_takes_no_step(self):
        for n, x, y in ((2, 1, 0), (2, 1000000, 0), (2, 0, 1000000), (10, 7, 2), (3, 3, 1)):
            with self.subTest(n=n, x=x, y=y):
                self.assertEqual(last(("begin", n), ("pair", x, y), ("first",)), [0, x, y])

    def test_is_made_in_thought(self):
        self.assertEqual(
            ask(("begin", 2), ("pair", 75, 53), ("first",), ("first",), ("down",), ("first",)),
            [[0], [0, 7], [2, 3, 1], [2, 3, 1], [0, 13, 9], [1, 3, 1]],
        )

    def test_from_as_high_as_steps_up_lead(self):
        for n in ALL_N:
            for x, y in ((1, 0), (0, 1), (5, 1)):
                with self.subTest(n=n, x=x, y=y):
                    told = ask(("begin", n), ("pair", x, y), ("first",), *[("up",), ("first",)] * 12)
                    start = told[2]
                    ups = 0
                    for step, end in zip(told[3::2], told[4::2]):
                        ups += step[0] == 0
                        self.assertEqual(end, [start[0] + ups, *start[1:]])

    def test_the_longest_way_from_1_0_of_2_46_and_53(self):
        self.assertEqual(last(("begin", 2), ("pair", 665857, 470832), ("first",)), [8, 1, 0])
        self.assertEqual(last(("begin", 46), ("pair", 24335, 3588), ("first",)), [1, 1, 0])
        self.assertEqual(last(("begin", 53), ("pair", 66249, 9100), ("first",)), [1, 1, 0])

    def test_ends_at_either_of_two_first_ones(self):
        self.assertEqual(last(("begin", 10), ("pair", 57, 18), ("first",)), [1, 3, 0])
        self.assertEqual(last(("begin", 10), ("pair", 253, 80), ("first",)), [1, 7, 2])
        self.assertEqual(last(("begin", 10), ("pair", 13, 4), ("first",)), [1, 7, 2])

    def test_pairs_near_and_far(self):
        far = ((1000000, 1000000), (1000000, 1), (1, 1000000), (1000000, 707107), (999999, 577350), (12, 345678))
        for n in ALL_N:
            one = slow_one(n)
            for at in far + tuple((x, y) for x in range(0, 30, 3) for y in range(1, 9)):
                with self.subTest(n=n, at=at):
                    self.assertEqual(last(("begin", n), ("pair", *at), ("first",)), slow_first(n, one, at))


class IsFirst(unittest.TestCase):
    def test_tells_first_ones_from_others(self):
        told = ((2, 1, 0, 1), (2, 3, 1, 1), (2, 5, 3, 0), (2, 13, 9, 0), (10, 3, 0, 1), (10, 7, 2, 1), (10, 13, 4, 0))
        for n, x, y, wanted in told:
            with self.subTest(n=n, x=x, y=y):
                self.assertEqual(last(("begin", n), ("pair", x, y), ("isfirst",)), [wanted])

    def test_one_with_the_same_y_below_is_a_first_one(self):
        self.assertEqual(last(("begin", 3), ("pair", 3, 1), ("isfirst",)), [1])
        self.assertEqual(last(("begin", 2), ("pair", 1, 1), ("isfirst",)), [1])

    def test_y_of_0_is_a_first_one(self):
        for n in ALL_N:
            for x in (1, 2, 60, 1000000):
                with self.subTest(n=n, x=x):
                    self.assertEqual(last(("begin", n), ("pair", x, 0), ("isfirst",)), [1])

    def test_the_one_is_not(self):
        for n in ALL_N:
            with self.subTest(n=n):
                self.assertEqual(ask(("begin", n), ("isfirst",), ("up",), ("isfirst",))[1::2], [[1], [0]])

    def test_changes_nothing(self):
        self.assertEqual(
            ask(("begin", 2), ("pair", 75, 53), ("isfirst",), ("isfirst",), ("down",)),
            [[0], [0, 7], [0], [0], [0, 13, 9]],
        )

    def test_every_pair_with_a_small_difference(self):
        for n in (2, 3, 13, 46, 53):
            one = slow_one(n)
            for wanted in (1, -1, 4, 36, 60, -60, -49):
                for at in slow_pairs(n, wanted, 300):
                    with self.subTest(n=n, at=at):
                        answer = 1 if slow_down(n, one, at)[1] >= at[1] else 0
                        self.assertEqual(last(("begin", n), ("pair", *at), ("isfirst",)), [answer])


if __name__ == "__main__":
    unittest.main()
