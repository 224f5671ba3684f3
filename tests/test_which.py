"""bound and which: how far one has to look, and what can be."""

import unittest
from math import isqrt

from tests.helper import ALL_N, GREATEST, ask, last, slow_down, slow_one, slow_pairs, told_by

# No first one is above 193 (that is 53's bound of 60), so a look this far misses none.
FAR = 250

OF_2 = [1, 2, 4, 7, 8, 9, 14, 16, 17, 18, 23, 25, 28, 31, 32, 34, 36, 41, 46, 47, 49, 50, 56]
OF_46 = [1, 2, 3, 4, 6, 8, 9, 12, 16, 18, 24, 25, 27, 32, 35, 36, 41, 48, 49, 50, 54, 59]
OF_46_BELOW_0 = [5, 7, 10, 14, 15, 20, 21, 23, 28, 30, 37, 40, 42, 45, 46, 53, 56, 60]
OF_53 = [1, 4, 7, 9, 11, 13, 16, 17, 25, 28, 29, 36, 37, 43, 44, 47, 49, 52, 53, 59]


class Bound(unittest.TestCase):
    def test_every_n_and_k(self):
        for n in ALL_N:
            p, q = slow_one(n)
            told = ask(("begin", n), *[("bound", k) for k in range(1, 61)])[1:]
            for k, answer in zip(range(1, 61), told):
                with self.subTest(n=n, k=k):
                    self.assertEqual(answer, [isqrt(q * q * k // (2 * (p - 1)))])

    def test_of_2_it_is_the_root_of_k(self):
        told = ask(("begin", 2), *[("bound", k) for k in (1, 3, 4, 8, 9, 48, 49, 50, 60)])[1:]
        self.assertEqual(told, [[1], [1], [2], [2], [3], [6], [7], [7], [7]])

    def test_of_46_and_53(self):
        self.assertEqual(ask(("begin", 46), ("bound", 1), ("bound", 23), ("bound", 60))[1:], [[16], [78], [125]])
        self.assertEqual(ask(("begin", 53), ("bound", 1), ("bound", 53), ("bound", 60))[1:], [[25], [182], [193]])

    def test_may_be_0(self):
        self.assertEqual(last(("begin", 3), ("bound", 1)), [0])

    def test_refused_where_k_is_not_1_to_60(self):
        for k in (0, 61, 62, GREATEST):
            with self.subTest(k=k):
                self.assertEqual(
                    ask(("begin", 2), ("pair", 75, 53), ("bound", k), ("told",), ("diff",), ("bound", 60)),
                    [[0], [0, 7], [-22], [2, 75, 53], [0, 7], [7]],
                )

    def test_refused_ahead_of_a_begin(self):
        self.assertEqual(
            ask(("bound", 1), ("bound", 0), ("begin", 61), ("bound", 60), ("told",)),
            [[-11], [-11], [-22], [-11], [-11]],
        )

    def test_changes_nothing(self):
        told = ask(("begin", 2), ("pair", 75, 53), ("bound", 60), ("told",), ("down",))
        self.assertEqual(told[3:], [[2, 75, 53], [0, 13, 9]])

    def test_the_pair_does_not_matter_but_n_of_the_last_begin(self):
        self.assertEqual(
            ask(("begin", 46), ("begin", 53), ("pair", 999, 1000), ("bound", 60), ("begin", 9), ("bound", 60))[3:],
            [[193], [-22], [193]],
        )

    def test_no_first_one_is_above_it(self):
        for n in ALL_N:
            one = slow_one(n)
            bounds = [answer[0] for answer in ask(("begin", n), *[("bound", k) for k in range(1, 61)])]
            for k in range(1, 61):
                for wanted in (k, -k):
                    above = [at for at in slow_pairs(n, wanted, FAR) if at[1] > bounds[k]]
                    with self.subTest(n=n, wanted=wanted):
                        self.assertEqual([at for at in above if slow_down(n, one, at)[1] >= at[1]], [])


class Which(unittest.TestCase):
    def test_every_n_against_a_slow_search(self):
        for n in ALL_N:
            for s in (0, 1):
                with self.subTest(n=n, s=s):
                    wanted = [k for k in range(1, 61) if slow_pairs(n, told_by(s, k), FAR)]
                    self.assertEqual(last(("begin", n), ("which", s, 60)), [len(wanted), *wanted])

    def test_every_b(self):
        for n, s, rising in ((2, 0, OF_2), (2, 1, OF_2), (46, 1, OF_46_BELOW_0)):
            for b in range(61):
                with self.subTest(n=n, s=s, b=b):
                    wanted = [k for k in rising if k <= b]
                    self.assertEqual(last(("begin", n), ("which", s, b)), [len(wanted), *wanted])

    def test_of_2_46_and_53(self):
        for n, s, wanted in ((2, 0, OF_2), (2, 1, OF_2), (46, 0, OF_46), (46, 1, OF_46_BELOW_0), (53, 0, OF_53),
                             (53, 1, OF_53)):
            with self.subTest(n=n, s=s):
                self.assertEqual(last(("begin", n), ("which", s, 60)), [len(wanted), *wanted])

    def test_60_either_way(self):
        self.assertEqual(last(("begin", 21), ("which", 0, 60))[-1], 60)
        self.assertEqual(last(("begin", 60), ("which", 1, 60)), [9, 11, 15, 24, 35, 44, 51, 56, 59, 60])
        self.assertEqual(last(("begin", 60), ("which", 1, 59)), [8, 11, 15, 24, 35, 44, 51, 56, 59])

    def test_told_as_can_tells_it(self):
        for n in (3, 13, 31, 60):
            for s in (0, 1):
                told = ask(("begin", n), ("which", s, 60), *[("can", s, k) for k in range(1, 61)])
                with self.subTest(n=n, s=s):
                    self.assertEqual(told[1][1:], [k for k in range(1, 61) if told[k + 1] == [1]])

    def test_b_of_0_asks_for_none(self):
        self.assertEqual(ask(("begin", 2), ("which", 0, 0), ("which", 1, 0)), [[0], [0], [0]])

    def test_none_up_to_b(self):
        self.assertEqual(last(("begin", 3), ("which", 1, 1)), [0])

    def test_refusals_change_nothing(self):
        for s, b in ((2, 0), (2, 60), (GREATEST, 1), (0, 61), (1, 61), (0, GREATEST), (1, GREATEST), (2, 61),
                     (GREATEST, GREATEST)):
            with self.subTest(s=s, b=b):
                self.assertEqual(
                    ask(("begin", 2), ("pair", 75, 53), ("which", s, b), ("told",), ("diff",), ("which", 0, 1)),
                    [[0], [0, 7], [-22], [2, 75, 53], [0, 7], [1, 1]],
                )

    def test_refused_ahead_of_a_begin(self):
        self.assertEqual(
            ask(("which", 0, 60), ("which", 2, 61), ("begin", 1), ("which", 1, 0), ("told",)),
            [[-11], [-11], [-22], [-11], [-11]],
        )

    def test_changes_nothing(self):
        told = ask(("begin", 2), ("pair", 75, 53), ("which", 1, 60), ("told",), ("down",))
        self.assertEqual(told[3:], [[2, 75, 53], [0, 13, 9]])

    def test_the_pair_does_not_matter_but_n_of_the_last_begin(self):
        self.assertEqual(
            ask(("begin", 46), ("begin", 60), ("pair", 999, 1000), ("which", 0, 9), ("begin", 9), ("which", 0, 9))[3:],
            [[3, 1, 4, 9], [-22], [3, 1, 4, 9]],
        )


if __name__ == "__main__":
    unittest.main()
