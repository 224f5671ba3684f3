"""down and up: where they lead, and when they are refused."""

import unittest

from tests.helper import ALL_N, ask, last, slow_down, slow_one, slow_pairs


class Up(unittest.TestCase):
    def test_goes_from_the_pair_to_the_next(self):
        self.assertEqual(
            ask(("begin", 2), ("pair", 3, 1), ("up",), ("up",)),
            [[0], [0, 7], [0, 13, 9], [0, 75, 53]],
        )

    def test_from_y_of_0_and_x_of_0(self):
        self.assertEqual(last(("begin", 3), ("pair", 5, 0), ("up",)), [0, 10, 5])
        self.assertEqual(last(("begin", 3), ("pair", 0, 5), ("up",)), [0, 15, 10])

    def test_keeps_the_difference_for_every_n(self):
        for n in ALL_N:
            for x, y in ((1, 1), (3, 0), (0, 1), (5, 2)):
                with self.subTest(n=n, x=x, y=y):
                    p, q = slow_one(n)
                    up = (p * x + n * q * y, p * y + q * x)
                    wanted = [0, *up] if max(up) <= 1000000 else [-28]
                    self.assertEqual(last(("begin", n), ("pair", x, y), ("up",)), wanted)

    def test_a_million_is_reached_and_one_above_is_refused(self):
        self.assertEqual(last(("begin", 3), ("pair", 500000, 0), ("up",)), [0, 1000000, 500000])
        self.assertEqual(last(("begin", 3), ("pair", 499999, 1), ("up",)), [-28])

    def test_refused_from_the_greatest_pair(self):
        self.assertEqual(last(("begin", 60), ("pair", 1000000, 1000000), ("up",)), [-28])

    def test_a_refused_one_changes_nothing(self):
        self.assertEqual(
            ask(("begin", 3), ("pair", 499999, 1), ("up",), ("up",), ("first",)),
            [[0], [0, 249999000001 - 3], [-28], [-28], [0, 499999, 1]],
        )

    def test_46_and_53_take_one_step_from_1_0(self):
        for n, p, q in ((46, 24335, 3588), (53, 66249, 9100)):
            with self.subTest(n=n):
                self.assertEqual(
                    ask(("begin", n), ("up",), ("up",), ("down",)),
                    [[0], [0, p, q], [-28], [0, 1, 0]],
                )

    def test_2_takes_eight_steps_from_1_0(self):
        steps = ask(("begin", 2), *[("up",)] * 10)
        self.assertEqual(steps[8:], [[0, 665857, 470832], [-28], [-28]])


class Down(unittest.TestCase):
    def test_goes_from_the_pair_to_the_one_below(self):
        self.assertEqual(
            ask(("begin", 2), ("pair", 75, 53), ("down",), ("down",), ("down",), ("first",)),
            [[0], [0, 7], [0, 13, 9], [0, 3, 1], [-16], [0, 3, 1]],
        )

    def test_leads_to_what_the_products_are_apart(self):
        self.assertEqual(last(("begin", 2), ("pair", 5, 3), ("down",)), [0, 3, 1])

    def test_from_a_million(self):
        self.assertEqual(last(("begin", 3), ("pair", 1000000, 500000), ("down",)), [0, 500000, 0])
        self.assertEqual(last(("begin", 2), ("pair", 1000000, 1000000), ("down",)), [-16])
        self.assertEqual(last(("begin", 2), ("pair", 999999, 1000000), ("down",)), [-16])

    def test_a_first_one_is_refused_and_stays(self):
        for n, x, y in ((2, 1, 0), (2, 7, 0), (2, 1, 1), (2, 0, 1), (10, 7, 2), (46, 24335, 0), (53, 1, 1)):
            with self.subTest(n=n, x=x, y=y):
                self.assertEqual(
                    ask(("begin", n), ("pair", x, y), ("down",), ("first",))[2:], [[-16], [0, x, y]])

    def test_one_with_the_same_y_below_is_a_first_one(self):
        self.assertEqual(last(("begin", 3), ("pair", 3, 1), ("down",)), [-16])

    def test_undoes_up(self):
        for n in ALL_N:
            with self.subTest(n=n):
                p, q = slow_one(n)
                self.assertEqual(ask(("begin", n), ("up",), ("down",)), [[0], [0, p, q], [0, 1, 0]])

    def test_every_pair_with_a_small_difference(self):
        for n in (2, 3, 5, 13, 46, 53, 60):
            one = slow_one(n)
            for wanted in (1, -1, 4, 7, 36, 49, 60, -60, -7, -49):
                for at in slow_pairs(n, wanted, 300):
                    with self.subTest(n=n, at=at):
                        below = slow_down(n, one, at)
                        answer = [0, *below] if below[1] < at[1] else [-16]
                        self.assertEqual(last(("begin", n), ("pair", *at), ("down",)), answer)


if __name__ == "__main__":
    unittest.main()
