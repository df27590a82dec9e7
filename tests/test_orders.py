"""try_order, right, left, both, order: by hand, and against a plain walk through all orders."""

import random
import unittest
from itertools import permutations, product

from tests.helper import (EITHER, LEFT, RIGHT, all_orders, ask, begin, both, bough, is_order, leans_of, left, order,
                          plain_try, right, run, shapes, told, trees, try_order, walk)

FAR_CALLS = [right(), left(), both(), order(0), order(1), order(2)]


class Try(unittest.TestCase):
    def test_an_order(self):
        calls = [try_order([2, 1, 3]), try_order([3, 2, 1]), try_order([2, 3, 1])]
        self.assertEqual(ask(2, (0, 1, 0), (5, -3, 4), *calls), [[0, 8, -1], [0, 8, 2], [0, 8, -1]])

    def test_the_lean_at_first_counts(self):
        self.assertEqual(ask(9, (0, 0), (-1, -1), try_order([1, 2])), [[0, 9, 7]])
        self.assertEqual(ask(-9, (0, 0), (1, 1), try_order([1, 2])), [[0, -7, -9]])

    def test_the_last_lean_counts(self):
        self.assertEqual(ask(0, (0, 0), (1, 1), try_order([2, 1])), [[0, 2, 0]])
        self.assertEqual(ask(0, (0, 0), (-1, -1), try_order([2, 1])), [[0, 0, -2]])

    def test_one_ahead_of_what_hangs_on_it(self):
        self.assertEqual(ask(0, (0, 1, 0), (1, 1, 1), try_order([1, 2, 3]), try_order([3, 1, 2]), try_order([1, 3, 2])),
                         [[1, 1], [1, 1], [1, 1]])

    def test_the_first_such_of_several(self):
        self.assertEqual(ask(0, (0, 1, 0, 3), (1, 1, 1, 1), try_order([3, 1, 2, 4]), try_order([2, 3, 1, 4]),
                             try_order([1, 3, 4, 2])), [[1, 3], [1, 3], [1, 1]])

    def test_the_first_such_in_a_chain(self):
        self.assertEqual(ask(0, (0, 1, 2), (1, 1, 1), try_order([2, 1, 3]), try_order([1, 3, 2]), try_order([3, 1, 2]),
                             try_order([2, 3, 1])), [[1, 2], [1, 1], [1, 1], [1, 2]])

    def test_not_all_parts_each_once(self):
        for row in ([], [1], [2], [1, 2], [1, 2, 2], [1, 2, 3, 3], [1, 1, 2], [0, 1, 2, 3], [0, 1, 2], [1, 2, 4],
                    [1, 2, 65535], [1, 2, 3, 4], [3] * 40, [1, 2, 3] * 13):
            with self.subTest(row=row):
                self.assertEqual(ask(0, (0, 0, 0), (1, 1, 1), try_order(row), right()), [[-22], [0, 3]])

    def test_the_trunk_alone(self):
        self.assertEqual(run(begin(193), try_order([]), try_order([0]), try_order([1])),
                         [[0], [0, -7, -7], [-22], [-22]])

    def test_refused_even_where_one_comes_off_too_soon(self):
        self.assertEqual(ask(0, (0, 1), (1, 1), try_order([1]), try_order([1, 2, 2])), [[-22], [-22]])

    def test_every_list_of_every_small_shape(self):
        for count in range(5):
            rows = list(permutations(range(1, count + 1)))
            for hung_on in shapes(count):
                changes = (7, -9, 4, -3)[:count]
                for row, answer in zip(rows, ask(-1, hung_on, changes, *[try_order(row) for row in rows])):
                    with self.subTest(hung_on=hung_on, row=row):
                        self.assertEqual(answer, plain_try(-1, hung_on, changes, row))


class AgainstAWalk(unittest.TestCase):
    def check(self, first_lean, hung_on, changes):
        expected = []
        by_side = [walk(first_lean, hung_on, changes, side) for side in (RIGHT, LEFT, EITHER)]
        expected += [[0, by_side[RIGHT][0]], [0, -by_side[LEFT][0]], [0, by_side[EITHER][0]]]
        expected += [[len(hung_on)] + best[1] for best in by_side]
        self.assertEqual(ask(first_lean, hung_on, changes, *FAR_CALLS), expected, (first_lean, hung_on, changes))

    def test_every_tree_of_three_boughs_at_most(self):
        for count in range(4):
            for hung_on in shapes(count):
                for changes in product((-2, -1, 0, 1, 2), repeat=count):
                    for first_lean in (-3, 0, 1):
                        self.check(first_lean, hung_on, changes)

    def test_every_shape_of_four_boughs(self):
        for hung_on in shapes(4):
            for changes in product((-2, 0, 3), repeat=4):
                self.check(0, hung_on, changes)

    def test_every_shape_of_five_boughs(self):
        source = random.Random(5)
        for hung_on in shapes(5):
            for k in range(4):
                self.check(source.randint(-4, 4), hung_on, tuple(source.choices((-3, -1, 0, 1, 2), k=5)))

    def test_some_of_six_to_eight_boughs(self):
        for count, how_many in ((6, 40), (7, 12), (8, 4)):
            for first_lean, hung_on, changes in trees(count, count, how_many, range(-50, 51)):
                self.check(first_lean, hung_on, changes)

    def test_some_of_seven_boughs_with_many_like_orders(self):
        for first_lean, hung_on, changes in trees(77, 7, 12, (-1, 0, 1)):
            self.check(first_lean, hung_on, changes)


class ByHand(unittest.TestCase):
    def test_the_trunk_alone(self):
        self.assertEqual(ask(0, (), (), *FAR_CALLS), [[0, 0], [0, 0], [0, 0], [0], [0], [0]])
        self.assertEqual(ask(-200, (), (), *FAR_CALLS[:3]), [[0, -200], [0, -200], [0, 200]])
        self.assertEqual(ask(200, (), (), *FAR_CALLS[:3]), [[0, 200], [0, 200], [0, 200]])

    def test_a_row_of_boughs_each_on_the_one_before(self):
        hung_on, changes = (0, 1, 2, 3), (-7, 2, -4, 6)
        self.assertEqual(ask(1, hung_on, changes, *FAR_CALLS),
                         [[0, 7], [0, -2], [0, 7]] + [[4, 4, 3, 2, 1]] * 3)

    def test_the_longest_such_row(self):
        self.assertEqual(ask(0, range(8), (50,) * 8, *FAR_CALLS),
                         [[0, 400], [0, 0], [0, 400]] + [[8, 8, 7, 6, 5, 4, 3, 2, 1]] * 3)

    def test_all_on_the_trunk(self):
        self.assertEqual(ask(0, (0, 0, 0, 0), (3, -2, 5, -4), *FAR_CALLS),
                         [[0, 2], [0, 0], [0, 3], [4, 2, 1, 4, 3], [4, 1, 2, 3, 4], [4, 1, 2, 4, 3]])

    def test_changes_of_0(self):
        self.assertEqual(ask(-4, (0, 0, 2), (0, 0, 0), *FAR_CALLS),
                         [[0, -4], [0, -4], [0, 4], [3, 1, 3, 2], [3, 1, 3, 2], [3, 1, 3, 2]])

    def test_a_row_that_falls_as_far_as_it_rises(self):
        self.assertEqual(ask(0, (0, 1, 0), (-3, 3, 1), *FAR_CALLS),
                         [[0, 3], [0, 0], [0, 3], [3, 2, 1, 3], [3, 2, 1, 3], [3, 2, 1, 3]])

    def test_two_alike(self):
        self.assertEqual(ask(0, (0, 0), (-5, -5), *FAR_CALLS[3:]), [[2, 1, 2]] * 3)

    def test_a_bough_that_rises_and_what_hangs_on_it_that_falls(self):
        self.assertEqual(ask(0, (0, 1, 0), (5, -5, 2), *FAR_CALLS),
                         [[0, 2], [0, -3], [0, 3], [3, 2, 1, 3], [3, 3, 2, 1], [3, 3, 2, 1]])

    def test_a_first_lean_far_to_the_left(self):
        self.assertEqual(ask(-200, (0, 0), (10, -20), *FAR_CALLS),
                         [[0, -200], [0, -210], [0, 210], [2, 2, 1], [2, 1, 2], [2, 1, 2]])

    def test_a_side_that_is_none(self):
        for s in (3, 4, 4294967295):
            self.assertEqual(ask(0, (0,), (1,), order(s)), [[-22]])
            self.assertEqual(ask(0, (), (), order(s)), [[-22]])


class WhatHolds(unittest.TestCase):
    def test_each_order_told_is_one_and_leans_as_told(self):
        for first_lean, hung_on, changes in trees(1, 8, 100, range(-50, 51)):
            far_right, far_left, far_both, *orders = ask(first_lean, hung_on, changes, *FAR_CALLS)
            for answer in orders:
                self.assertEqual(answer[0], 8)
                self.assertTrue(is_order(hung_on, answer[1:]))
            leans = [leans_of(first_lean, changes, answer[1:]) for answer in orders]
            self.assertEqual(far_right, [0, max(leans[0])])
            self.assertEqual(far_left, [0, min(leans[1])])
            self.assertEqual(far_both, [0, max(abs(lean) for lean in leans[2])])

    def test_the_other_way_about(self):
        for first_lean, hung_on, changes in trees(2, 8, 100, range(-50, 51)):
            here = ask(first_lean, hung_on, changes, *FAR_CALLS)
            there = ask(-first_lean, hung_on, [-c for c in changes], *FAR_CALLS)
            self.assertEqual(there[0][1], -here[1][1])
            self.assertEqual(there[1][1], -here[0][1])
            self.assertEqual(there[2], here[2])
            self.assertEqual([there[3], there[4], there[5]], [here[4], here[3], here[5]])

    def test_less_to_the_right_never_makes_it_lean_farther_there(self):
        for first_lean, hung_on, changes in trees(3, 6, 60, range(-49, 51)):
            before = ask(first_lean, hung_on, changes, right())[0][1]
            for k in range(6):
                lesser = list(changes)
                lesser[k] -= 1
                self.assertLessEqual(ask(first_lean, hung_on, lesser, right())[0][1], before)

    def test_all_on_the_trunk_no_farther_than_at_first_or_at_last(self):
        for first_lean, hung_on, changes in trees(4, 8, 60, range(-50, 51)):
            farthest = max(first_lean, first_lean + sum(changes))
            self.assertEqual(ask(first_lean, [0] * 8, changes, right()), [[0, farthest]])

    def test_told_leans_as_right_does(self):
        for first_lean, hung_on, changes in trees(6, 8, 200, (-3, -2, -1, 0, 1, 2, 3)):
            far_right, rows = ask(first_lean, hung_on, changes, right(), told())
            self.assertEqual(rows[:2], far_right)

    def test_the_walk_itself(self):
        self.assertEqual(all_orders((0, 1, 0)), [[2, 1, 3], [2, 3, 1], [3, 2, 1]])
        self.assertEqual(all_orders(()), [[]])

    def test_orders_follow_what_was_changed(self):
        calls = [begin(200), bough(0, 55), bough(0, 45), order(0), [2, 2, 60], order(0), [3], order(0)]
        self.assertEqual(run(*calls)[3:], [[2, 2, 1], [0, -5], [2, 1, 2], [2], [1, 1]])


if __name__ == "__main__":
    unittest.main()
