"""The list that is handed in and the one that is given back."""

import unittest

from otherdifferences.pairs import answers
from tests.helper import GREATEST, ask, laid, last, parted

EVERY_CALL = (
    ("begin", 2),
    ("pair", 75, 53),
    ("down",),
    ("up",),
    ("first",),
    ("isfirst",),
    ("firsts", 0, 49),
    ("can", 1, 7),
    ("least", 0, 7),
    ("upto", 0, 7, 9),
    ("many", 0, 7, 2000),
    ("bound", 60),
    ("which", 0, 8),
    ("withy", 1, 7, 8),
    ("diff",),
    ("other",),
    ("told",),
)

# Each call that takes numbers, with ones that it takes.
TAKEN = (
    ("begin", 2),
    ("pair", 3, 1),
    ("firsts", 0, 7),
    ("can", 0, 7),
    ("least", 0, 7),
    ("upto", 0, 7, 9),
    ("many", 0, 7, 9),
    ("bound", 7),
    ("which", 0, 7),
    ("withy", 0, 7, 9),
)

# What 0 in the place of one number answers, behind a begin of 2; in each other place it is -22.
ANSWERED_AT_0 = {
    ("pair", 0, 1): [0, -2],
    ("pair", 3, 0): [0, 9],
    ("firsts", 0, 7): [1, 3, 1],
    ("can", 0, 7): [1],
    ("least", 0, 7): [0, 3, 1],
    ("upto", 0, 7, 9): [3, 3, 1, 5, 3, 13, 9],
    ("upto", 0, 7, 0): [0],
    ("many", 0, 7, 9): [3],
    ("many", 0, 7, 0): [0],
    ("which", 0, 7): [4, 1, 2, 4, 7],
    ("which", 0, 0): [0],
    ("withy", 0, 7, 9): [0, 13, 9],
    ("withy", 0, 7, 0): [-33],
}


def with_each_number(end):
    """The calls of TAKEN, again and again, with one number after another put to an end of its range."""
    calls = []
    for call in TAKEN:
        for place in range(1, len(call)):
            calls.append(call[:place] + (end,) + call[place + 1:])
    return calls


class Unchanging(list):
    """A list that lets itself be read alone."""

    def refuse(self, *given):
        raise AssertionError("the list handed in was changed")

    append = extend = insert = pop = remove = clear = sort = reverse = refuse
    __setitem__ = __delitem__ = __iadd__ = __imul__ = refuse


class Layout(unittest.TestCase):
    def test_every_call_in_one_list(self):
        handed_in = [0, 2, 1, 75, 53, 2, 3, 4, 5, 6, 0, 49, 7, 1, 7, 8, 0, 7]
        handed_in += [9, 0, 7, 9, 10, 0, 7, 2000, 11, 60, 12, 0, 8, 13, 1, 7, 8, 14, 15, 16]
        wanted = [1, 0, 2, 0, 7, 3, 0, 13, 9, 3, 0, 75, 53, 3, 2, 3, 1, 1, 0, 5, 2, 7, 0, 9, 4, 1, 1, 3, 0, 3, 1]
        wanted += [7, 3, 3, 1, 5, 3, 13, 9, 1, 9, 1, 7, 6, 5, 1, 2, 4, 7, 8, 3, 0, 11, 8, 2, 0, 7, 3, 0, 13, 9]
        wanted += [3, 2, 75, 53]
        self.assertEqual(len(EVERY_CALL), 17)
        self.assertEqual(laid(EVERY_CALL), handed_in)
        self.assertEqual(answers(handed_in), wanted)

    def test_every_call_in_the_other_order(self):
        calls = (("begin", 2), ("pair", 75, 53)) + EVERY_CALL[:1:-1]
        forth = dict(zip(EVERY_CALL, ask(*EVERY_CALL)))
        back = dict(zip(calls, ask(*calls)))
        # Here up goes ahead of down.
        self.assertEqual((back.pop(("up",)), forth.pop(("up",))), ([0, 437, 309], [0, 75, 53]))
        self.assertEqual((back.pop(("down",)), forth.pop(("down",))), ([0, 75, 53], [0, 13, 9]))
        self.assertEqual(back, forth)

    def test_a_refusal_is_its_number_alone(self):
        self.assertEqual(
            answers([2, 0, 2, 2, 1, 0, 0, 6, 2, 1, 7, 0, 0, 8, 0, 3]),
            [1, -11, 1, 0, 1, -16, 1, -22, 1, -22, 1, -22, 1, -33],
        )
        self.assertEqual(
            answers([16, 0, 2, 9, 0, 1, 301, 10, 0, 1, 2001, 11, 0, 12, 0, 61, 13, 0, 1, 1000001, 13, 0, 3, 1]),
            [1, -11, 1, 0, 1, -22, 1, -22, 1, -22, 1, -22, 1, -22, 1, -33],
        )
        self.assertEqual(answers([0, 53, 3, 3]), [1, 0, 3, 0, 66249, 9100, 1, -28])

    def test_a_difference_below_0_is_no_refusal(self):
        self.assertEqual(answers([0, 2, 1, 0, 1, 4, 14]), [1, 0, 2, 0, -2, 3, 0, 0, 1, 2, 0, -2])

    def test_gives_back_a_list_of_whole_numbers(self):
        told = answers(laid(EVERY_CALL))
        self.assertIs(type(told), list)
        self.assertEqual({type(number) for number in told}, {int})

    def test_answers_below_0_are_whole_numbers_too(self):
        told = answers([5, 0, 2, 5, 7, 0, 3, 1, 0, 0, 8, 1, 3, 2, 12, 0, 0, 13, 0, 3, 1, 1, 0, 1, 14])
        self.assertEqual({type(number) for number in told}, {int})


class BeforeBegin(unittest.TestCase):
    def test_all_else_is_refused(self):
        for call in EVERY_CALL[1:]:
            with self.subTest(call=call):
                self.assertEqual(ask(call), [[-11]])

    def test_also_what_would_be_refused_otherwise(self):
        for call in (("pair", 0, 0), ("pair", GREATEST, GREATEST), ("firsts", 2, 0), ("can", GREATEST, GREATEST),
                     ("least", 0, GREATEST), ("least", 0, 3), ("upto", 0, 1, 301), ("many", 0, 1, 2001), ("bound", 0),
                     ("which", 0, 61), ("withy", 0, 1, 1000001), ("withy", 0, 3, 1)):
            with self.subTest(call=call):
                self.assertEqual(ask(call), [[-11]])

    def test_also_with_numbers_at_the_ends_of_their_ranges(self):
        for end in (0, GREATEST):
            for call in with_each_number(end):
                if call[0] != "begin":
                    with self.subTest(call=call):
                        self.assertEqual(ask(call, ("begin", 2), ("told",)), [[-11], [0], [2, 1, 0]])

    def test_also_behind_a_begin_that_is_refused(self):
        for call in EVERY_CALL[1:]:
            with self.subTest(call=call):
                self.assertEqual(ask(("begin", 0), ("begin", 49), call), [[-22], [-22], [-11]])

    def test_a_refused_pair_is_not_kept_for_the_begin(self):
        self.assertEqual(ask(("pair", 3, 1), ("begin", 2), ("first",)), [[-11], [0], [0, 1, 0]])


class Whole(unittest.TestCase):
    def test_80_calls(self):
        calls = [("begin", 3)] + [("up",), ("down",)] * 39 + [("isfirst",)]
        self.assertEqual(len(calls), 80)
        self.assertEqual(ask(*calls), [[0]] + [[0, 2, 1], [0, 1, 0]] * 39 + [[1]])

    def test_80_of_the_longest_calls(self):
        calls = [("begin", 53)] + [("firsts", 0, 60), ("least", 1, 60), ("pair", 1, 1000000)] * 26 + [("begin", 53)]
        self.assertEqual(len(calls), 80)
        self.assertEqual(ask(*calls), [[0]] + [[0], [-33], [0, 1 - 53 * 10 ** 12]] * 26 + [[0]])

    def test_80_with_the_longest_of_each(self):
        three = [("many", 0, 1, 2000), ("which", 1, 60), ("withy", 0, 1, 1000000)]
        calls = [("begin", 53)] + three * 26 + [("told",)]
        self.assertEqual(len(calls), 80)
        below_0 = [1, 4, 7, 9, 11, 13, 16, 17, 25, 28, 29, 36, 37, 43, 44, 47, 49, 52, 53, 59]
        self.assertEqual(ask(*calls), [[0]] + [[1], [20, *below_0], [-33]] * 26 + [[53, 1, 0]])

    def test_80_with_as_many_numbers_as_there_may_be(self):
        for name, end, wanted in (("upto", 300, [4, 23, 3, 30, 4, 1143, 157, 1507, 207]), ("many", 2000, [4]),
                                  ("withy", 157, [0, 1143, 157])):
            calls = [("begin", 53)] + [(name, 0, 52, end)] * 79
            with self.subTest(name=name):
                self.assertEqual(ask(*calls), [[0]] + [wanted] * 79)

    def test_80_that_are_refused(self):
        self.assertEqual(answers([9, 0, 1, 300] * 80), [1, -11] * 80)

    def test_80_begins(self):
        self.assertEqual(answers([0, 53] * 80), [1, 0] * 80)

    def test_each_number_at_0(self):
        for call in with_each_number(0):
            with self.subTest(call=call):
                self.assertEqual(last(("begin", 2), call), ANSWERED_AT_0.get(call, [-22]))

    def test_each_number_at_the_greatest(self):
        for call in with_each_number(GREATEST):
            with self.subTest(call=call):
                self.assertEqual(
                    ask(("begin", 2), ("pair", 3, 1), call, ("told",)), [[0], [0, 7], [-22], [2, 3, 1]])

    def test_all_numbers_at_the_ends_of_their_ranges(self):
        for end in (0, GREATEST):
            refused = [(call[0],) + (end,) * (len(call) - 1) for call in TAKEN]
            told = ask(("begin", 2), *refused, ("told",))
            with self.subTest(end=end):
                # Of these which alone takes 0 for all of its numbers.
                wanted = [[0] if call == ("which", 0, 0) else [-22] for call in refused]
                self.assertEqual(told, [[0]] + wanted + [[2, 1, 0]])

    def test_what_is_handed_in_stays_as_it_was(self):
        handed_in = laid(EVERY_CALL)
        answers(handed_in)
        self.assertEqual(handed_in, laid(EVERY_CALL))

    def test_it_is_not_changed_for_a_while_either(self):
        self.assertEqual(answers(Unchanging(laid(EVERY_CALL))), answers(laid(EVERY_CALL)))

    def test_what_is_given_back_is_not_what_was_handed_in(self):
        handed_in = laid(EVERY_CALL)
        told = answers(handed_in)
        told.clear()
        self.assertEqual(handed_in, laid(EVERY_CALL))
        self.assertEqual(len(parted(answers(handed_in))), len(EVERY_CALL))

    def test_the_same_list_is_answered_alike_twice(self):
        handed_in = laid(EVERY_CALL)
        self.assertEqual(answers(handed_in), answers(handed_in))
        self.assertEqual(handed_in, laid(EVERY_CALL))

    def test_nothing_is_kept_from_one_time_to_the_next(self):
        answers([0, 2, 1, 3, 1])
        self.assertEqual(answers([4]), [1, -11])
        self.assertEqual(answers([16]), [1, -11])
        self.assertEqual(answers([0, 3, 4]), [1, 0, 3, 0, 1, 0])


if __name__ == "__main__":
    unittest.main()
