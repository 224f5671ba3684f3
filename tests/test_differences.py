"""firsts, can and least: what there is of a difference."""

import unittest

from tests.helper import ALL_N, NO_DIFFERENCES, ask, flat, last, slow_down, slow_one, slow_pairs, told_by

# No first one is above 193 (that is 53's bound of 60), so a look this far misses none.
FAR = 250

# By n, s and k: differences whose pair with the least y lies just at the bound.
AT_THE_BOUND = {
    (2, 1, 1): (1, 1),
    (46, 1, 23): (529, 78),
    (46, 0, 32): (624, 92),
    (53, 1, 25): (910, 125),
    (53, 0, 53): (1325, 182),
}


class EveryDifference(unittest.TestCase):
    """All three calls, for every n and every difference that may be told."""

    def test_against_a_slow_search(self):
        for n in ALL_N:
            one = slow_one(n)
            for s in (0, 1):
                for k in range(1, 61):
                    with self.subTest(n=n, s=s, k=k):
                        self.compare(n, one, s, k)

    def compare(self, n, one, s, k):
        found = slow_pairs(n, told_by(s, k), FAR)
        first_ones = [at for at in found if slow_down(n, one, at)[1] >= at[1]]
        self.assertEqual(
            ask(("begin", n), ("firsts", s, k), ("can", s, k), ("least", s, k)),
            [
                [0],
                [len(first_ones), *flat(first_ones)],
                [1 if found else 0],
                [0, *found[0]] if found else [-33],
            ],
        )

    def test_nothing_is_changed(self):
        for call in ("firsts", "can", "least"):
            for s, k in ((0, 7), (1, 7), (0, 3), (0, 0), (2, 1)):
                with self.subTest(call=call, s=s, k=k):
                    told = ask(("begin", 2), ("pair", 75, 53), (call, s, k), ("first",), ("down",))
                    self.assertEqual(told[3:], [[2, 3, 1], [0, 13, 9]])

    def test_the_pair_does_not_matter(self):
        for call in ("firsts", "can", "least"):
            with self.subTest(call=call):
                told = ask(("begin", 10), (call, 0, 9), ("pair", 999, 1000), (call, 0, 9))
                self.assertEqual(told[1], told[3])

    def test_n_of_the_last_begin_counts(self):
        for call in ("firsts", "can", "least"):
            with self.subTest(call=call):
                told = ask(("begin", 10), ("begin", 2), (call, 0, 7), ("begin", 9), (call, 0, 7))
                alone = last(("begin", 2), (call, 0, 7))
                self.assertEqual([told[2], told[4]], [alone, alone])


class Refusals(unittest.TestCase):
    def test_what_tells_no_difference(self):
        for call in ("firsts", "can", "least"):
            for s, k in NO_DIFFERENCES:
                with self.subTest(call=call, s=s, k=k):
                    self.assertEqual(last(("begin", 2), (call, s, k)), [-22])

    def test_1_and_60_are_taken_either_way(self):
        for call in ("firsts", "can", "least"):
            for s in (0, 1):
                for k in (1, 60):
                    with self.subTest(call=call, s=s, k=k):
                        self.assertNotEqual(last(("begin", 6), (call, s, k)), [-22])


class Firsts(unittest.TestCase):
    def test_one(self):
        self.assertEqual(last(("begin", 2), ("firsts", 0, 7)), [1, 3, 1])
        self.assertEqual(last(("begin", 2), ("firsts", 1, 7)), [1, 1, 2])

    def test_a_square(self):
        self.assertEqual(last(("begin", 2), ("firsts", 0, 1)), [1, 1, 0])
        self.assertEqual(last(("begin", 2), ("firsts", 0, 49)), [2, 7, 0, 9, 4])

    def test_several_by_y(self):
        self.assertEqual(last(("begin", 10), ("firsts", 0, 9)), [2, 3, 0, 7, 2])
        self.assertEqual(last(("begin", 10), ("firsts", 1, 9)), [2, 1, 1, 9, 3])
        self.assertEqual(last(("begin", 13), ("firsts", 0, 36)), [5, 6, 0, 7, 1, 19, 5, 33, 9, 58, 16])

    def test_none(self):
        self.assertEqual(last(("begin", 2), ("firsts", 0, 3)), [0])
        self.assertEqual(last(("begin", 3), ("firsts", 1, 1)), [0])

    def test_a_pair_within_the_bound_that_is_no_first_one(self):
        # 7, 3 has the difference 22 too, and 3 is the bound; but it leads down to 5, 1.
        self.assertEqual(last(("begin", 3), ("firsts", 0, 22)), [1, 5, 1])

    def test_one_that_is_its_own_step_down(self):
        self.assertEqual(last(("begin", 2), ("firsts", 1, 1)), [1, 1, 1])
        self.assertEqual(last(("begin", 3), ("firsts", 0, 6)), [1, 3, 1])

    def test_x_of_0(self):
        self.assertEqual(last(("begin", 60), ("firsts", 1, 60)), [2, 0, 1, 30, 4])

    def test_great_ones_of_46_and_53(self):
        self.assertEqual(last(("begin", 46), ("firsts", 0, 50)), [2, 48, 7, 780, 115])
        self.assertEqual(last(("begin", 46), ("firsts", 1, 60)), [2, 26, 4, 434, 64])
        self.assertEqual(last(("begin", 53), ("firsts", 0, 52)), [3, 23, 3, 30, 4, 1143, 157])
        self.assertEqual(last(("begin", 53), ("firsts", 1, 49)), [2, 2, 1, 1274, 175])


class Can(unittest.TestCase):
    def test_some_can_and_some_can_not(self):
        told = ((2, 0, 1, 1), (2, 1, 1, 1), (2, 0, 3, 0), (2, 1, 3, 0), (3, 1, 1, 0), (3, 0, 22, 1), (60, 1, 60, 1))
        for n, s, k, wanted in told:
            with self.subTest(n=n, s=s, k=k):
                self.assertEqual(last(("begin", n), ("can", s, k)), [wanted])

    def test_only_at_the_bound(self):
        for n, s, k in AT_THE_BOUND:
            with self.subTest(n=n, s=s, k=k):
                self.assertEqual(last(("begin", n), ("can", s, k)), [1])

    def test_every_square_can(self):
        for n in ALL_N:
            for x in range(1, 8):
                with self.subTest(n=n, x=x):
                    self.assertEqual(last(("begin", n), ("can", 0, x * x)), [1])


class Least(unittest.TestCase):
    def test_the_one_with_the_least_y(self):
        self.assertEqual(last(("begin", 2), ("least", 0, 7)), [0, 3, 1])
        self.assertEqual(last(("begin", 10), ("least", 1, 9)), [0, 1, 1])
        self.assertEqual(last(("begin", 53), ("least", 1, 1)), [0, 182, 25])

    def test_only_at_the_bound(self):
        for (n, s, k), at in AT_THE_BOUND.items():
            with self.subTest(n=n, s=s, k=k):
                self.assertEqual(last(("begin", n), ("least", s, k)), [0, *at])

    def test_a_square_has_y_of_0(self):
        for n in ALL_N:
            for x in range(1, 8):
                with self.subTest(n=n, x=x):
                    self.assertEqual(last(("begin", n), ("least", 0, x * x)), [0, x, 0])

    def test_60_either_way(self):
        self.assertEqual(last(("begin", 60), ("least", 1, 60)), [0, 0, 1])
        self.assertEqual(last(("begin", 21), ("least", 0, 60)), [0, 9, 1])

    def test_none_has_it(self):
        self.assertEqual(last(("begin", 2), ("least", 0, 3)), [-33])
        self.assertEqual(last(("begin", 3), ("least", 1, 1)), [-33])

    def test_what_tells_no_difference_is_refused_ahead_of_what_none_has(self):
        self.assertEqual(last(("begin", 2), ("least", 2, 3)), [-22])
        self.assertEqual(last(("begin", 2), ("least", 0, 61)), [-22])


if __name__ == "__main__":
    unittest.main()
