"""answers: what is handed in stays as it is, nothing is kept, and what is given back is whole numbers in a list."""

import unittest

from leaning.boughs import answers
from tests.helper import (PlainTree, apart, begin, both, bough, boughs, change, ends, first, flat, grow, ifchange,
                          iflean, keeps, lean, left, less, look, may, order, right, rows, state, told, try_order, ways)

MADE = [right(), begin(401)] + grow(-3, (0, 1, 1, 0), (4, -6, 2, -1))
OTHERS = [change(1, 45), less(), bough(2, 70), lean(215), try_order([4, 2, 3, 1]), try_order([1, 2, 3, 4]),
          try_order([1, 1]), right(), left(), both(), order(0), order(1), order(2), order(3), told(), rows(), ways(),
          may([]), may([3, 4]), may([1]), first(3), first(1), first(9), keeps(0), keeps(30), ifchange(1, 40),
          ifchange(0, 40), ifchange(1, 101), iflean(180), iflean(401), boughs(0), boughs(4), boughs(5), look(4),
          look(0), ends(), state()]
EVERY_CALL = flat(MADE + OTHERS)


def refuse(self, *given):
    raise AssertionError("what is handed in is changed")


class Unchanging(list):
    """A list that fails on the spot when it is changed, even if it were changed back."""
    append = extend = insert = pop = remove = reverse = sort = clear = refuse
    __setitem__ = __delitem__ = __iadd__ = __imul__ = refuse


class Interface(unittest.TestCase):
    def test_the_whole_list_of_numbers(self):
        self.assertEqual(answers([6, 0, 203, 1, 0, 54, 2, 1, 40, 7, 9, 1, 5, 1, 1, 10, 3]),
                         [1, -11, 1, 0, 1, 1, 2, 0, 4, 2, 0, -7, 2, 1, 1, 3, 0, 3, -7, 3, 0, 3, 1, 1, 1])

    def test_the_whole_list_of_numbers_of_the_other_calls(self):
        # Lean 3 at first; part 1 on the trunk, change 4; part 2 on part 1, change -6.
        calls = [0, 203, 1, 0, 54, 1, 1, 44, 11, 12, 13, 1, 2, 14, 2, 15, 3, 16, 1, 60, 17, 200, 18, 0, 19, 2, 20, 21]
        self.assertEqual(answers(calls), [1, 0, 1, 1, 1, 2, 7, 2, 1, -6, -6, 1, 4, 4, 1, 1, 2, 1, 1, 2, 0, 3, 1, 1,
                                          2, 0, 7, 2, 0, 6, 2, 1, 1, 2, 1, -6, 3, 0, 3, 1, 3, 0, 3, 3])

    def test_every_call_is_among_them(self):
        self.assertEqual({call[0] for call in MADE + OTHERS}, set(range(22)))

    def test_what_is_handed_in_is_the_same_behind_the_call(self):
        calls = list(EVERY_CALL)
        answers(calls)
        self.assertEqual(calls, EVERY_CALL)

    def test_what_is_handed_in_is_not_changed_for_a_while_either(self):
        self.assertEqual(answers(Unchanging(EVERY_CALL)), answers(list(EVERY_CALL)))

    def test_a_second_call_answers_as_the_first(self):
        calls = list(EVERY_CALL)
        first = answers(calls)
        self.assertEqual(answers(calls), first)

    def test_nothing_is_kept_from_one_time_to_the_next(self):
        answers(flat(grow(5, (0, 0), (1, 2))))
        self.assertEqual(answers(flat([right(), begin(200), right(), less()])), [1, -11, 1, 0, 2, 0, 0, 1, -6])

    def test_what_is_given_back_is_new_each_time(self):
        calls = list(EVERY_CALL)
        first = answers(calls)
        again = list(first)
        first.clear()
        self.assertEqual(answers(calls), again)

    def test_plain_whole_numbers_in_a_plain_list(self):
        given_back = answers(list(EVERY_CALL))
        self.assertIs(type(given_back), list)
        self.assertEqual({type(number) for number in given_back}, {int})

    def test_an_answer_for_each_call_and_a_refusal_alone(self):
        parted = apart(answers(list(EVERY_CALL)))
        self.assertEqual(len(parted), len(MADE) + len(OTHERS))
        for answer in parted:
            self.assertTrue(answer[0] >= 0 or len(answer) == 1)

    def test_rows_of_none_and_of_forty_numbers_are_read_to_their_ends(self):
        calls = flat([begin(200), try_order([]), try_order([65535] * 40), try_order([0] * 40), right()])
        self.assertEqual(answers(calls), [1, 0, 3, 0, 0, 0, 1, -22, 1, -22, 2, 0, 0])
        calls = flat([begin(200), may([]), may([65535] * 40), may([0] * 40), right()])
        self.assertEqual(answers(calls), [1, 0, 1, 0, 1, -22, 1, -22, 2, 0, 0])

    def test_rows_ahead_of_a_begin_are_read_to_their_ends(self):
        self.assertEqual(answers(flat([try_order([0, 0, 6]), begin(200), right()])), [1, -11, 1, 0, 2, 0, 0])
        self.assertEqual(answers(flat([may([0, 0, 6]), begin(200), right()])), [1, -11, 1, 0, 2, 0, 0])

    def test_the_greatest_numbers_ahead_of_a_begin_and_behind_it(self):
        high = 4294967295
        calls = [bough(high, high), change(high, high), lean(high), order(high), first(high), keeps(high),
                 ifchange(high, high), iflean(high), boughs(high), look(high), begin(high)]
        self.assertEqual(apart(answers(flat(calls))), [[-11]] * 10 + [[-22]])
        self.assertEqual(apart(answers(flat([begin(200)] + calls)))[1:],
                         [[-2], [-2], [-22], [-22], [-2], [1], [-2], [-22], [-2], [-2], [-22]])

    def test_256_calls(self):
        tree = grow(0, (0, 1, 0, 3, 0, 5, 0, 7), (5, -5, 4, -4, 3, -3, 2, -2))
        parted = apart(answers(flat(tree + [order(2)] * 247)))
        self.assertEqual(len(parted), 256)
        self.assertEqual(parted[9:], [parted[9]] * 247)

    def test_256_calls_of_all_numbers(self):
        called = ((MADE + OTHERS) * 6)[:256]
        self.assertEqual(len(called), 256)
        self.assertEqual({call[0] for call in called}, set(range(22)))
        calls = flat(called)
        handed_in = list(calls)
        given_back = answers(handed_in)
        self.assertEqual(handed_in, calls)
        self.assertEqual(answers(handed_in), given_back)
        self.assertEqual(answers(Unchanging(calls)), given_back)
        parted = apart(given_back)
        plain = PlainTree()
        for call, answer in zip(called, parted, strict=True):
            self.assertEqual(answer, plain.answer(call), call)


if __name__ == "__main__":
    unittest.main()
