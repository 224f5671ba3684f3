"""pair: the difference it tells, and which pairs it takes."""

import unittest

from tests.helper import ALL_N, GREATEST, ask, last


class Pair(unittest.TestCase):
    def test_tells_the_difference(self):
        for n, x, y, wanted in ((2, 3, 1, 7), (2, 3, 2, 1), (2, 1, 1, -1), (3, 1, 1, -2), (7, 5, 2, -3)):
            with self.subTest(n=n, x=x, y=y):
                self.assertEqual(last(("begin", n), ("pair", x, y)), [0, wanted])

    def test_tells_the_difference_for_every_n(self):
        for n in ALL_N:
            for x, y in ((0, 1), (1, 0), (5, 4), (999999, 123456)):
                with self.subTest(n=n, x=x, y=y):
                    self.assertEqual(last(("begin", n), ("pair", x, y)), [0, x * x - n * y * y])

    def test_y_of_0_and_x_of_0(self):
        self.assertEqual(last(("begin", 5), ("pair", 6, 0)), [0, 36])
        self.assertEqual(last(("begin", 5), ("pair", 0, 6)), [0, -180])

    def test_becomes_the_pair(self):
        self.assertEqual(
            ask(("begin", 2), ("pair", 3, 1), ("first",), ("pair", 7, 0), ("first",)),
            [[0], [0, 7], [0, 3, 1], [0, 49], [0, 7, 0]],
        )

    def test_a_million_is_taken(self):
        self.assertEqual(last(("begin", 60), ("pair", 1000000, 0)), [0, 10 ** 12])
        self.assertEqual(last(("begin", 60), ("pair", 0, 1000000)), [0, -60 * 10 ** 12])
        self.assertEqual(last(("begin", 60), ("pair", 1000000, 1000000)), [0, -59 * 10 ** 12])

    def test_refused_ones_change_nothing(self):
        refused = (
            (0, 0),
            (1000001, 0),
            (0, 1000001),
            (1000001, 1000001),
            (1000000, 1000001),
            (1000001, 1000000),
            (GREATEST, 0),
            (0, GREATEST),
            (GREATEST, GREATEST),
        )
        for x, y in refused:
            with self.subTest(x=x, y=y):
                self.assertEqual(
                    ask(("begin", 2), ("pair", 3, 1), ("pair", x, y), ("first",), ("up",)),
                    [[0], [0, 7], [-22], [0, 3, 1], [0, 13, 9]],
                )


if __name__ == "__main__":
    unittest.main()
