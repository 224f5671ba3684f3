"""diff, other and told: what the object tells of itself."""

import unittest

from tests.helper import ALL_N, GREATEST, ask, last, slow_down, slow_one, slow_pairs

FAR = ((1000000, 1000000), (1000000, 1), (1, 1000000), (1000000, 0), (0, 1000000), (999999, 577350), (665857, 470832))

# Calls that are refused behind the pair 499999, 1 of 3, each with its refusal.
REFUSED = (
    (("begin", 0), -22),
    (("begin", 49), -22),
    (("begin", GREATEST), -22),
    (("pair", 0, 0), -22),
    (("pair", 1000001, 1), -22),
    (("pair", 1, GREATEST), -22),
    (("down",), -16),
    (("up",), -28),
    (("firsts", 2, 1), -22),
    (("can", 0, 61), -22),
    (("least", 0, 0), -22),
    (("least", 1, 1), -33),
    (("upto", 0, 1, 301), -22),
    (("many", 0, 1, 2001), -22),
    (("bound", 61), -22),
    (("which", 0, 61), -22),
    (("withy", 0, 1, 1000001), -22),
    (("withy", 0, 1, 2), -33),
)


class Diff(unittest.TestCase):
    def test_tells_the_difference(self):
        for n, x, y, wanted in ((2, 3, 1, 7), (2, 3, 2, 1), (7, 5, 2, -3), (10, 7, 2, 9), (46, 24335, 3588, 1)):
            with self.subTest(n=n, x=x, y=y):
                self.assertEqual(last(("begin", n), ("pair", x, y), ("diff",)), [0, wanted])

    def test_below_0_it_is_no_refusal(self):
        self.assertEqual(
            ask(("begin", 2), ("pair", 1, 1), ("diff",), ("pair", 0, 1), ("diff",), ("told",)),
            [[0], [0, -1], [0, -1], [0, -2], [0, -2], [2, 0, 1]],
        )

    def test_below_0_by_as_much_as_a_refusal_has(self):
        # -11, -16, -22, -28 and -33, told as differences.
        for n, x, y, wanted in ((3, 1, 2, -11), (5, 2, 2, -16), (22, 0, 1, -22), (7, 0, 2, -28), (34, 1, 1, -33)):
            with self.subTest(wanted=wanted):
                self.assertEqual(last(("begin", n), ("pair", x, y), ("diff",)), [0, wanted])

    def test_behind_a_begin_it_is_1(self):
        for n in ALL_N:
            with self.subTest(n=n):
                self.assertEqual(ask(("begin", n), ("diff",), ("pair", 5, 3), ("begin", n), ("diff",))[1::3],
                                 [[0, 1], [0, 1]])

    def test_steps_keep_it(self):
        self.assertEqual(
            ask(("begin", 2), ("pair", 3, 1), ("up",), ("diff",), ("up",), ("diff",), ("down",), ("diff",))[3::2],
            [[0, 7]] * 3,
        )
        self.assertEqual(
            ask(("begin", 2), ("pair", 1, 2), ("up",), ("diff",), ("up",), ("diff",), ("down",), ("diff",))[3::2],
            [[0, -7]] * 3,
        )

    def test_great_ones_are_not_rounded(self):
        for n in ALL_N:
            for x, y in FAR:
                with self.subTest(n=n, x=x, y=y):
                    wanted = [0, x * x - n * y * y]
                    self.assertEqual(ask(("begin", n), ("pair", x, y), ("diff",))[1:], [wanted, wanted])

    def test_y_of_0(self):
        self.assertEqual(last(("begin", 5), ("pair", 6, 0), ("diff",)), [0, 36])

    def test_n_of_the_last_begin_counts(self):
        self.assertEqual(last(("begin", 2), ("begin", 3), ("pair", 1, 1), ("diff",)), [0, -2])

    def test_changes_nothing(self):
        self.assertEqual(
            ask(("begin", 2), ("pair", 75, 53), ("diff",), ("diff",), ("told",), ("down",))[2:],
            [[0, 7], [0, 7], [2, 75, 53], [0, 13, 9]],
        )


class Other(unittest.TestCase):
    def test_is_where_down_leads(self):
        self.assertEqual(
            ask(("begin", 2), ("pair", 75, 53), ("other",), ("down",), ("other",), ("down",))[2:],
            [[0, 13, 9], [0, 13, 9], [0, 3, 1], [0, 3, 1]],
        )

    def test_is_told_for_a_first_one_too(self):
        for n, x, y, wanted in ((2, 3, 1, (5, 3)), (10, 7, 2, (13, 4)), (10, 3, 0, (57, 18)), (2, 0, 1, (4, 3))):
            with self.subTest(n=n, x=x, y=y):
                self.assertEqual(
                    ask(("begin", n), ("pair", x, y), ("isfirst",), ("down",), ("other",))[2:],
                    [[1], [-16], [0, *wanted]],
                )

    def test_may_be_the_pair_itself(self):
        self.assertEqual(last(("begin", 2), ("pair", 1, 1), ("other",)), [0, 1, 1])
        self.assertEqual(last(("begin", 3), ("pair", 3, 1), ("other",)), [0, 3, 1])

    def test_of_1_0_it_is_the_one_for_every_n(self):
        for n in ALL_N:
            with self.subTest(n=n):
                self.assertEqual(
                    ask(("begin", n), ("other",), ("up",), ("other",))[1::2], [[0, *slow_one(n)], [0, 1, 0]])

    def test_may_lead_above_a_million(self):
        self.assertEqual(last(("begin", 53), ("pair", 1000000, 0), ("other",)), [0, 66249000000, 9100000000])
        self.assertEqual(last(("begin", 2), ("pair", 0, 1000000), ("other",)), [0, 4000000, 3000000])

    def test_near_and_far_against_a_slow_step(self):
        for n in ALL_N:
            one = slow_one(n)
            for at in FAR + tuple((x, y) for x in range(0, 30, 3) for y in range(1, 9)):
                with self.subTest(n=n, at=at):
                    self.assertEqual(last(("begin", n), ("pair", *at), ("other",)), [0, *slow_down(n, one, at)])

    def test_has_the_same_difference(self):
        for n in (2, 3, 13, 46, 53, 60):
            for wanted in (1, -1, 36, 49, 60, -60):
                for at in slow_pairs(n, wanted, 300):
                    with self.subTest(n=n, at=at):
                        zero, x, y = last(("begin", n), ("pair", *at), ("other",))
                        self.assertEqual((zero, x * x - n * y * y), (0, wanted))
                        self.assertGreaterEqual(min(x, y), 0)

    def test_changes_nothing(self):
        for x, y in ((75, 53), (3, 1), (1000000, 0)):
            with self.subTest(x=x, y=y):
                told = ask(("begin", 2), ("pair", x, y), ("other",), ("told",), ("other",))
                self.assertEqual((told[3], told[4]), ([2, x, y], told[2]))


class Told(unittest.TestCase):
    def test_behind_a_begin(self):
        for n in ALL_N:
            with self.subTest(n=n):
                self.assertEqual(ask(("begin", n), ("told",)), [[0], [n, 1, 0]])

    def test_follows_what_is_changed(self):
        self.assertEqual(
            ask(("begin", 2), ("pair", 3, 1), ("told",), ("up",), ("told",), ("down",), ("told",), ("begin", 53),
                ("told",), ("up",), ("told",))[2::2],
            [[2, 3, 1], [2, 13, 9], [2, 3, 1], [53, 1, 0], [53, 66249, 9100]],
        )

    def test_a_million_and_0(self):
        for x, y in FAR:
            with self.subTest(x=x, y=y):
                self.assertEqual(last(("begin", 46), ("pair", x, y), ("told",)), [46, x, y])

    def test_tells_the_same_twice(self):
        self.assertEqual(ask(("begin", 2), ("pair", 75, 53), ("told",), ("told",))[2:], [[2, 75, 53]] * 2)

    def test_stays_behind_first_and_isfirst(self):
        self.assertEqual(ask(("begin", 2), ("pair", 75, 53), ("first",), ("isfirst",), ("told",))[4], [2, 75, 53])


class Refusals(unittest.TestCase):
    def test_ahead_of_a_begin(self):
        for call in ("diff", "other", "told"):
            with self.subTest(call=call):
                self.assertEqual(
                    ask((call,), ("begin", 4), (call,), ("begin", 2), ("told",)),
                    [[-11], [-22], [-11], [0], [2, 1, 0]],
                )

    def test_every_refused_call_leaves_all_as_it_was(self):
        for call, refusal in REFUSED:
            with self.subTest(call=call):
                told = ask(("begin", 3), ("pair", 499999, 1), call, ("told",), ("diff",), ("other",), ("bound", 60))
                self.assertEqual(
                    told[2:],
                    [[refusal], [3, 499999, 1], [0, 249998999998], [0, 999995, 499997], [5]],
                )


if __name__ == "__main__":
    unittest.main()
