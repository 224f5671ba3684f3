"""begin: which n it takes, and what it leaves behind."""

import unittest

from tests.helper import ALL_N, GREATEST, ask, last, slow_one


class Begin(unittest.TestCase):
    def test_takes_every_n_from_2_to_60_that_is_no_square(self):
        for n in range(0, 130):
            with self.subTest(n=n):
                self.assertEqual(ask(("begin", n)), [[0] if n in ALL_N else [-22]])

    def test_refuses_each_square(self):
        for n in (4, 9, 16, 25, 36, 49):
            with self.subTest(n=n):
                self.assertEqual(ask(("begin", n)), [[-22]])

    def test_refuses_what_is_out_of_range(self):
        for n in (0, 1, 61, 62, 64, GREATEST):
            with self.subTest(n=n):
                self.assertEqual(ask(("begin", n)), [[-22]])

    def test_the_pair_is_1_0(self):
        self.assertEqual(ask(("begin", 7), ("first",)), [[0], [0, 1, 0]])

    def test_the_first_step_up_is_to_the_one_for_every_n(self):
        for n in ALL_N:
            with self.subTest(n=n):
                self.assertEqual(last(("begin", n), ("up",)), [0, *slow_one(n)])

    def test_the_ones_of_2_46_and_53(self):
        for n, p, q in ((2, 3, 2), (46, 24335, 3588), (53, 66249, 9100)):
            with self.subTest(n=n):
                self.assertEqual(last(("begin", n), ("up",)), [0, p, q])

    def test_comes_again_with_another_n_and_the_pair_1_0(self):
        self.assertEqual(
            ask(("begin", 2), ("pair", 17, 12), ("begin", 3), ("first",), ("up",)),
            [[0], [0, 1], [0], [0, 1, 0], [0, 2, 1]],
        )

    def test_comes_again_with_the_same_n(self):
        self.assertEqual(
            ask(("begin", 2), ("up",), ("begin", 2), ("first",), ("up",)),
            [[0], [0, 3, 2], [0], [0, 1, 0], [0, 3, 2]],
        )

    def test_a_refused_one_changes_nothing(self):
        for n in (0, 1, 4, 49, 61, GREATEST):
            with self.subTest(n=n):
                self.assertEqual(
                    ask(("begin", 2), ("pair", 3, 1), ("begin", n), ("first",), ("up",)),
                    [[0], [0, 7], [-22], [0, 3, 1], [0, 13, 9]],
                )

    def test_a_refused_one_does_not_begin(self):
        self.assertEqual(
            ask(("begin", 9), ("up",), ("begin", 2), ("up",)),
            [[-22], [-11], [0], [0, 3, 2]],
        )


if __name__ == "__main__":
    unittest.main()
