"""The list that is handed in and the one that is given back."""

import unittest

from otherdifferences.pairs import answers
from tests.helper import GREATEST, ask, laid, parted

EVERY_CALL = (
    ("begin", 2),
    ("pair", 75, 53),
    ("down",),
    ("up",),
    ("first",),
    ("isfirst",),
    ("firsts", 0, 49),
    ("can", 1, 7),
    ("least", 0, 7),
)


class Layout(unittest.TestCase):
    def test_every_call_in_one_list(self):
        handed_in = [0, 2, 1, 75, 53, 2, 3, 4, 5, 6, 0, 49, 7, 1, 7, 8, 0, 7]
        self.assertEqual(laid(EVERY_CALL), handed_in)
        self.assertEqual(
            answers(handed_in),
            [1, 0, 2, 0, 7, 3, 0, 13, 9, 3, 0, 75, 53, 3, 2, 3, 1, 1, 0, 5, 2, 7, 0, 9, 4, 1, 1, 3, 0, 3, 1],
        )

    def test_a_refusal_is_its_number_alone(self):
        self.assertEqual(
            answers([2, 0, 2, 2, 1, 0, 0, 6, 2, 1, 7, 0, 0, 8, 0, 3]),
            [1, -11, 1, 0, 1, -16, 1, -22, 1, -22, 1, -22, 1, -33],
        )
        self.assertEqual(answers([0, 53, 3, 3]), [1, 0, 3, 0, 66249, 9100, 1, -28])

    def test_a_difference_below_0_is_no_refusal(self):
        self.assertEqual(answers([0, 2, 1, 0, 1, 4]), [1, 0, 2, 0, -2, 3, 0, 0, 1])

    def test_gives_back_a_list_of_whole_numbers(self):
        told = answers(laid(EVERY_CALL))
        self.assertIs(type(told), list)
        self.assertEqual({type(number) for number in told}, {int})

    def test_answers_below_0_are_whole_numbers_too(self):
        told = answers([5, 0, 2, 5, 7, 0, 3, 1, 0, 0, 8, 1, 3, 2])
        self.assertEqual({type(number) for number in told}, {int})


class BeforeBegin(unittest.TestCase):
    def test_all_else_is_refused(self):
        for call in EVERY_CALL[1:]:
            with self.subTest(call=call):
                self.assertEqual(ask(call), [[-11]])

    def test_also_what_would_be_refused_otherwise(self):
        for call in (("pair", 0, 0), ("pair", GREATEST, GREATEST), ("firsts", 2, 0), ("can", GREATEST, GREATEST),
                     ("least", 0, GREATEST), ("least", 0, 3)):
            with self.subTest(call=call):
                self.assertEqual(ask(call), [[-11]])

    def test_also_the_calls_behind_the_ninth(self):
        for number, count in ((9, 3), (10, 3), (11, 1), (12, 2), (13, 3), (14, 0), (15, 0), (16, 0)):
            with self.subTest(number=number):
                self.assertEqual(answers([number] + [GREATEST] * count + [0, 2]), [1, -11, 1, 0])

    def test_also_behind_a_begin_that_is_refused(self):
        for call in EVERY_CALL[1:]:
            with self.subTest(call=call):
                self.assertEqual(ask(("begin", 0), ("begin", 49), call), [[-22], [-22], [-11]])

    def test_a_refused_pair_is_not_kept_for_the_begin(self):
        self.assertEqual(ask(("pair", 3, 1), ("begin", 2), ("first",)), [[-11], [0], [0, 1, 0]])


class Whole(unittest.TestCase):
    def test_80_calls(self):
        calls = [("begin", 3)] + [("up",), ("down",)] * 39 + [("isfirst",)]
        self.assertEqual(len(calls), 80)
        self.assertEqual(ask(*calls), [[0]] + [[0, 2, 1], [0, 1, 0]] * 39 + [[1]])

    def test_80_of_the_longest_calls(self):
        calls = [("begin", 53)] + [("firsts", 0, 60), ("least", 1, 60), ("pair", 1, 1000000)] * 26 + [("begin", 53)]
        self.assertEqual(len(calls), 80)
        self.assertEqual(ask(*calls), [[0]] + [[0], [-33], [0, 1 - 53 * 10 ** 12]] * 26 + [[0]])

    def test_80_begins(self):
        self.assertEqual(answers([0, 53] * 80), [1, 0] * 80)

    def test_numbers_at_the_ends_of_their_ranges(self):
        for end in (0, GREATEST):
            calls = [("begin", 2), ("begin", end), ("pair", end, end), ("firsts", end, end), ("can", end, end),
                     ("least", end, end), ("first",)]
            with self.subTest(end=end):
                self.assertEqual(ask(*calls), [[0]] + [[-22]] * 5 + [[0, 1, 0]])

    def test_what_is_handed_in_stays_as_it_was(self):
        handed_in = laid(EVERY_CALL)
        answers(handed_in)
        self.assertEqual(handed_in, laid(EVERY_CALL))

    def test_what_is_given_back_is_not_what_was_handed_in(self):
        handed_in = laid(EVERY_CALL)
        told = answers(handed_in)
        told.clear()
        self.assertEqual(handed_in, laid(EVERY_CALL))
        self.assertEqual(len(parted(answers(handed_in))), len(EVERY_CALL))

    def test_the_same_list_is_answered_alike_twice(self):
        handed_in = laid(EVERY_CALL)
        self.assertEqual(answers(handed_in), answers(handed_in))

    def test_nothing_is_kept_from_one_time_to_the_next(self):
        answers([0, 2, 1, 3, 1])
        self.assertEqual(answers([4]), [1, -11])
        self.assertEqual(answers([0, 3, 4]), [1, 0, 3, 0, 1, 0])


if __name__ == "__main__":
    unittest.main()
