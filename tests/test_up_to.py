"""upto, many and withy: the pairs of a difference by their y."""

import unittest

from tests.helper import ALL_N, GREATEST, NO_DIFFERENCES, ask, flat, last, slow_down, slow_one, slow_pairs, told_by

# The greatest third number that each call takes.
ENDS = {"upto": 300, "many": 2000, "withy": 1000000}

BOTH_WAYS = [(s, k) for s in (0, 1) for k in range(1, 61)]


def stepped_up_to(n, first_ones, greatest_y):
    """All that comes of first ones by one step down or none, then steps up."""
    p, q = slow_one(n)
    found = set()
    for start in first_ones:
        for x, y in (start, slow_down(n, (p, q), start)):
            while y <= greatest_y:
                found.add((x, y))
                x, y = p * x + n * q * y, p * y + q * x
    return sorted(found, key=lambda at: at[1])


class AllThree(unittest.TestCase):
    def test_what_tells_no_difference_is_refused(self):
        for call in ENDS:
            for s, k in NO_DIFFERENCES:
                for third in (0, 1, ENDS[call], GREATEST):
                    with self.subTest(call=call, s=s, k=k, third=third):
                        self.assertEqual(last(("begin", 2), (call, s, k, third)), [-22])

    def test_the_third_number_is_taken_up_to_its_end(self):
        for call, end in ENDS.items():
            for s, k in ((0, 1), (1, 60), (0, 3)):
                for third, refused in ((0, False), (end, False), (end + 1, True), (GREATEST, True)):
                    with self.subTest(call=call, s=s, k=k, third=third):
                        self.assertEqual(last(("begin", 2), (call, s, k, third)) == [-22], refused)

    def test_refused_ahead_of_a_begin(self):
        for call, end in ENDS.items():
            for third in (0, end, end + 1):
                with self.subTest(call=call, third=third):
                    self.assertEqual(
                        ask((call, 0, 1, third), (call, 2, 0, third), ("begin", 4), (call, 0, 1, third), ("told",)),
                        [[-11], [-11], [-22], [-11], [-11]],
                    )

    def test_nothing_is_changed(self):
        for call, end in ENDS.items():
            for given in ((0, 7, 1), (0, 7, 2), (1, 7, end), (0, 3, 0), (0, 7, end + 1), (0, 0, 1), (2, 7, 1)):
                with self.subTest(call=call, given=given):
                    told = ask(("begin", 2), ("pair", 75, 53), (call, *given), ("told",), ("diff",), ("down",))
                    self.assertEqual(told[3:], [[2, 75, 53], [0, 7], [0, 13, 9]])

    def test_the_pair_does_not_matter_but_n_of_the_last_begin(self):
        for call in ENDS:
            with self.subTest(call=call):
                alone = last(("begin", 2), (call, 0, 7, 9))
                told = ask(("begin", 10), ("begin", 2), ("pair", 999, 1000), (call, 0, 7, 9), ("begin", 9),
                           (call, 0, 7, 9))
                self.assertEqual([told[3], told[5]], [alone, alone])


class UpTo(unittest.TestCase):
    def test_every_difference_against_a_slow_search(self):
        for n in ALL_N:
            for s, k in BOTH_WAYS:
                with self.subTest(n=n, s=s, k=k):
                    found = slow_pairs(n, told_by(s, k), 300)
                    self.assertEqual(last(("begin", n), ("upto", s, k, 300)), [len(found), *flat(found)])

    def test_all_come_of_the_first_ones(self):
        for n in (2, 3, 10, 13, 46, 53, 60):
            for s, k in BOTH_WAYS:
                with self.subTest(n=n, s=s, k=k):
                    told = ask(("begin", n), ("firsts", s, k), ("upto", s, k, 300))
                    first_ones = list(zip(told[1][1::2], told[1][2::2]))
                    self.assertEqual(told[2][1:], flat(stepped_up_to(n, first_ones, 300)))

    def test_each_ends_at_a_first_one_of_the_same_difference(self):
        for n, s, k in ((2, 0, 49), (5, 0, 44), (10, 0, 9), (46, 1, 60), (53, 0, 52)):
            first_ones = last(("begin", n), ("firsts", s, k))
            told = last(("begin", n), ("upto", s, k, 300))
            for at in zip(told[1::2], told[2::2]):
                with self.subTest(n=n, at=at):
                    end = last(("begin", n), ("pair", *at), ("first",))
                    self.assertIn(tuple(end[1:]), list(zip(first_ones[1::2], first_ones[2::2])))

    def test_by_y(self):
        self.assertEqual(last(("begin", 2), ("upto", 0, 7, 53)), [5, 3, 1, 5, 3, 13, 9, 27, 19, 75, 53])
        self.assertEqual(last(("begin", 2), ("upto", 1, 7, 22)), [4, 1, 2, 5, 4, 11, 8, 31, 22])

    def test_y_of_b_is_within(self):
        self.assertEqual(last(("begin", 2), ("upto", 0, 7, 9)), [3, 3, 1, 5, 3, 13, 9])
        self.assertEqual(last(("begin", 2), ("upto", 0, 7, 8)), [2, 3, 1, 5, 3])
        self.assertEqual(last(("begin", 11), ("upto", 0, 25, 300))[-2:], [995, 300])
        self.assertNotIn(995, last(("begin", 11), ("upto", 0, 25, 299)))

    def test_b_of_0(self):
        self.assertEqual(last(("begin", 2), ("upto", 0, 49, 0)), [1, 7, 0])
        self.assertEqual(last(("begin", 2), ("upto", 0, 7, 0)), [0])
        self.assertEqual(last(("begin", 2), ("upto", 1, 49, 0)), [0])

    def test_b_of_300_and_301(self):
        self.assertEqual(last(("begin", 53), ("upto", 0, 1, 300)), [1, 1, 0])
        self.assertEqual(last(("begin", 53), ("upto", 0, 1, 301)), [-22])

    def test_a_square_with_two_first_ones(self):
        self.assertEqual(last(("begin", 10), ("upto", 0, 9, 80)), [5, 3, 0, 7, 2, 13, 4, 57, 18, 253, 80])

    def test_one_that_none_has(self):
        self.assertEqual(last(("begin", 2), ("upto", 0, 3, 300)), [0])
        self.assertEqual(last(("begin", 3), ("upto", 1, 1, 300)), [0])

    def test_46_and_53(self):
        self.assertEqual(last(("begin", 46), ("upto", 1, 60, 300)), [3, 26, 4, 434, 64, 1682, 248])
        self.assertEqual(last(("begin", 53), ("upto", 0, 52, 300)), [4, 23, 3, 30, 4, 1143, 157, 1507, 207])

    def test_60_either_way(self):
        self.assertEqual(last(("begin", 60), ("upto", 1, 60, 244)), [4, 0, 1, 30, 4, 240, 31, 1890, 244])
        self.assertEqual(last(("begin", 21), ("upto", 0, 60, 10)), [3, 9, 1, 12, 2, 33, 7])


class Many(unittest.TestCase):
    def test_every_n_against_a_slow_search(self):
        for n in ALL_N:
            for s, k in ((0, 1), (1, 1), (0, 4), (0, 25), (0, 49), (1, 11), (0, 60), (1, 60)):
                with self.subTest(n=n, s=s, k=k):
                    wanted = len(slow_pairs(n, told_by(s, k), 2000))
                    self.assertEqual(last(("begin", n), ("many", s, k, 2000)), [wanted])

    def test_every_difference_against_a_slow_search(self):
        for n in (2, 46, 53):
            for s, k in BOTH_WAYS:
                with self.subTest(n=n, s=s, k=k):
                    wanted = len(slow_pairs(n, told_by(s, k), 2000))
                    self.assertEqual(last(("begin", n), ("many", s, k, 2000)), [wanted])

    def test_as_many_as_upto_lists(self):
        for b in range(301):
            with self.subTest(b=b):
                told = ask(("begin", 5), ("upto", 0, 44, b), ("many", 0, 44, b))
                self.assertEqual(told[2], told[1][:1])

    def test_y_of_b_is_within(self):
        self.assertEqual(last(("begin", 2), ("many", 0, 7, 9)), [3])
        self.assertEqual(last(("begin", 2), ("many", 0, 7, 8)), [2])
        # No pair that may be asked for has y of 2,000: 12955, 1999 and 14290, 2001 lie nearest to it.
        self.assertEqual(ask(("begin", 42), ("many", 1, 17, 1998), ("many", 1, 17, 1999))[1:], [[5], [6]])
        self.assertEqual(last(("begin", 51), ("many", 0, 49, 2000)), [len(slow_pairs(51, 49, 2001)) - 1])

    def test_b_of_0(self):
        self.assertEqual(last(("begin", 2), ("many", 0, 49, 0)), [1])
        self.assertEqual(last(("begin", 2), ("many", 0, 7, 0)), [0])

    def test_b_of_2000_and_2001(self):
        self.assertEqual(last(("begin", 2), ("many", 0, 1, 2000)), [5])
        self.assertEqual(last(("begin", 2), ("many", 0, 1, 2001)), [-22])

    def test_one_that_none_has(self):
        self.assertEqual(last(("begin", 2), ("many", 0, 3, 2000)), [0])
        self.assertEqual(last(("begin", 3), ("many", 1, 1, 2000)), [0])


class WithY(unittest.TestCase):
    def test_tells_the_pair(self):
        for n, s, k, y, x in ((2, 0, 7, 1, 3), (2, 0, 7, 9, 13), (2, 1, 7, 2, 1), (10, 0, 9, 4, 13), (53, 1, 1, 25, 182)):
            with self.subTest(n=n, s=s, k=k, y=y):
                self.assertEqual(last(("begin", n), ("withy", s, k, y)), [0, x, y])

    def test_no_x_makes_it(self):
        for n, s, k, y in ((2, 0, 7, 2), (2, 0, 3, 1), (2, 1, 7, 1), (3, 1, 1, 1), (2, 0, 1, 1)):
            with self.subTest(n=n, s=s, k=k, y=y):
                self.assertEqual(last(("begin", n), ("withy", s, k, y)), [-33])

    def test_y_of_0_is_there_just_for_squares(self):
        roots = {x * x: x for x in range(1, 8)}
        for k in range(1, 61):
            with self.subTest(k=k):
                wanted = [0, roots[k], 0] if k in roots else [-33]
                self.assertEqual(
                    ask(("begin", 2), ("withy", 0, k, 0), ("withy", 1, k, 0)), [[0], wanted, [-33]])

    def test_x_of_0(self):
        self.assertEqual(last(("begin", 60), ("withy", 1, 60, 1)), [0, 0, 1])
        self.assertEqual(last(("begin", 5), ("withy", 1, 45, 3)), [0, 0, 3])

    def test_a_square_that_would_be_below_0(self):
        self.assertEqual(last(("begin", 2), ("withy", 1, 60, 5)), [-33])
        self.assertEqual(last(("begin", 2), ("withy", 1, 9, 2)), [-33])

    def test_each_small_y_against_a_slow_search(self):
        for n in (2, 3, 13, 46, 53, 60):
            for s, k in BOTH_WAYS:
                found = {y: x for x, y in slow_pairs(n, told_by(s, k), 70)}
                told = ask(("begin", n), *[("withy", s, k, y) for y in range(71)])[1:]
                with self.subTest(n=n, s=s, k=k):
                    self.assertEqual(told, [[0, found[y], y] if y in found else [-33] for y in range(71)])

    def test_great_ones_are_not_rounded(self):
        great = ((2, 0, 1, 665857, 470832), (60, 0, 1, 7380481, 952816), (60, 1, 60, 7261410, 937444),
                 (54, 0, 10, 7220672, 982609), (55, 0, 45, 7285310, 982351), (53, 0, 4, 6754799, 927843))
        for n, s, k, x, y in great:
            with self.subTest(n=n, y=y):
                self.assertEqual(
                    ask(("begin", n), ("withy", s, k, y), ("withy", s, k, y - 1), ("withy", s, k, y + 1))[1:],
                    [[0, x, y], [-33], [-33]],
                )

    def test_a_million_and_one_more(self):
        # No difference of 1 to 60, either way, has a pair with y of a million.
        for n in ALL_N:
            with self.subTest(n=n):
                self.assertEqual(
                    ask(("begin", n), ("withy", 0, 1, 1000000), ("withy", 1, 60, 1000000), ("withy", 0, 1, 1000001)),
                    [[0], [-33], [-33], [-22]],
                )

    def test_what_is_not_as_told_is_refused_ahead_of_what_no_x_makes(self):
        self.assertEqual(last(("begin", 2), ("withy", 2, 3, 1)), [-22])
        self.assertEqual(last(("begin", 2), ("withy", 0, 61, 1)), [-22])
        self.assertEqual(last(("begin", 2), ("withy", 0, 3, 1000001)), [-22])


if __name__ == "__main__":
    unittest.main()
