"""ways, may, first, keeps, ifchange, iflean: by hand, at their edges, and against a plain walk through all orders."""

import random
import unittest
from itertools import permutations, product
from math import factorial

from tests.helper import (EITHER, RIGHT, all_orders, ask, begin, both, bough, change, children, everything, first,
                          ifchange, iflean, keeps, lean, less, look, may, right, run, shapes, state, trees, walk,
                          walk_first, walk_may, ways)

GREATEST = 4294967295


class Ways(unittest.TestCase):
    def test_the_trunk_alone_has_one_order_of_nothing(self):
        self.assertEqual(ask(0, (), (), ways()), [[1]])

    def test_a_row_of_boughs_each_on_the_one_before(self):
        for count in range(1, 9):
            self.assertEqual(ask(0, range(count), (1,) * count, ways()), [[1]])

    def test_all_on_the_trunk(self):
        for count in range(1, 9):
            self.assertEqual(ask(0, (0,) * count, (1,) * count, ways()), [[factorial(count)]])

    def test_by_hand(self):
        self.assertEqual(ask(0, (0, 1, 0), (1, 1, 1), ways()), [[3]])
        self.assertEqual(ask(0, (0, 1, 1, 0), (1, 1, 1, 1), ways()), [[8]])

    def test_every_shape_of_five_boughs_at_most(self):
        for count in range(6):
            for hung_on in shapes(count):
                changes = (1, -2, 3, 0, 5)[:count]
                self.assertEqual(ask(3, hung_on, changes, ways()), [[len(all_orders(hung_on))]], hung_on)

    def test_some_of_eight_boughs(self):
        for first_lean, hung_on, changes in trees(12, 8, 3, range(-50, 51)):
            self.assertEqual(ask(first_lean, hung_on, changes, ways()), [[len(all_orders(hung_on))]], hung_on)

    def test_changes_and_leans_count_for_nothing(self):
        calls = [ways(), change(1, 0), ways(), lean(0), ways(), bough(0, 50), ways(), less(), less(), ways()]
        self.assertEqual(ask(0, (0, 1, 0), (1, 1, 1), *calls),
                         [[3], [0, 1], [3], [0, 0], [3], [4], [12], [4], [3], [1]])


class May(unittest.TestCase):
    def check(self, row, answer):
        # Parts 2 and 3 hang on 1, part 5 on 4.
        self.assertEqual(ask(0, (0, 1, 1, 0, 4), (1, 2, 3, 4, 5), may(row)), [answer])

    def test_no_part_at_all(self):
        self.check([], [3, 2, 3, 5])

    def test_some_parts_off(self):
        self.check([2], [2, 3, 5])
        self.check([5], [3, 2, 3, 4])
        self.check([2, 3], [2, 1, 5])
        self.check([3, 2], [2, 1, 5])
        self.check([5, 4], [2, 2, 3])
        self.check([3, 5, 2], [2, 1, 4])
        self.check([2, 3, 1], [1, 5])
        self.check([2, 3, 1, 5], [1, 4])

    def test_all_of_them_off(self):
        self.check([2, 3, 1, 5, 4], [0])
        self.check([5, 4, 3, 2, 1], [0])

    def test_a_part_twice(self):
        self.check([2, 2], [-22])
        self.check([5, 4, 5], [-22])
        self.check([2, 3, 1, 5, 4, 4], [-22])
        self.check([2] * 40, [-22])

    def test_part_0(self):
        self.check([0], [-22])
        self.check([2, 0], [-22])
        self.check([2, 3, 1, 5, 4, 0], [-22])

    def test_a_part_that_is_not_there(self):
        self.check([6], [-22])
        self.check([2, 6], [-22])
        self.check([65535], [-22])
        self.check([2, 3, 1, 5, 4, 6], [-22])

    def test_a_part_ahead_of_one_that_hangs_on_it(self):
        self.check([1], [-22])
        self.check([4], [-22])
        self.check([4, 5], [-22])
        self.check([2, 1], [-22])
        self.check([2, 1, 3], [-22])
        self.check([1, 2, 3, 4, 5], [-22])

    def test_the_trunk_alone(self):
        self.assertEqual(ask(0, (), (), may([]), may([0]), may([1])), [[0], [-22], [-22]])

    def test_behind_bough_and_less(self):
        calls = [may([]), bough(1, 50), may([]), may([1]), may([2]), less(), may([]), may([1])]
        self.assertEqual(ask(0, (0,), (1,), *calls), [[1, 1], [2], [1, 2], [-22], [1, 1], [2], [1, 1], [0]])

    def check_lists(self, hung_on, lists):
        answers = ask(0, hung_on, (1,) * len(hung_on), *[may(row) for row in lists])
        for row, answer in zip(lists, answers):
            parts = walk_may(hung_on, row)
            self.assertEqual(answer, [-22] if parts is None else [len(parts)] + parts, (hung_on, row))

    def test_every_list_on_every_small_shape(self):
        for count in range(5):
            lists = [row for size in range(count + 1) for row in permutations(range(1, count + 1), size)]
            for hung_on in shapes(count):
                self.check_lists(hung_on, lists)

    def test_lists_with_wrong_and_repeated_parts_on_every_small_shape(self):
        lists = [row for size in range(4) for row in product(range(4), repeat=size)]
        for count in range(3):
            for hung_on in shapes(count):
                self.check_lists(hung_on, lists)


class First(unittest.TestCase):
    def test_by_hand(self):
        # 1 first: 5, then 1, 3. 3 first: -4, -2, 3; the order by which it leans least far begins so.
        self.assertEqual(ask(0, (0, 0, 0), (5, 2, -4), first(1), first(2), first(3), right()),
                         [[0, 5], [0, 3], [0, 3], [0, 3]])

    def test_the_lean_at_first_counts(self):
        self.assertEqual(ask(9, (0, 0), (-3, -4), first(1), first(2)), [[0, 9], [0, 9]])

    def test_leans_below_0(self):
        self.assertEqual(ask(-200, (0, 0), (50, -50), first(1), first(2)), [[0, -150], [0, -200]])

    def test_one_bough(self):
        self.assertEqual(ask(1, (0,), (50,), first(1)), [[0, 51]])
        self.assertEqual(ask(1, (0,), (-50,), first(1)), [[0, 1]])

    def test_something_hangs_on_it(self):
        self.assertEqual(ask(0, (0, 1, 2, 0), (1, 1, 1, 1), first(1), first(2), first(3), first(4)),
                         [[-33], [-33], [0, 4], [0, 4]])

    def test_no_longer_where_that_is_gone(self):
        self.assertEqual(ask(0, (0, 1), (1, 1), first(1), less(), first(1), bough(1, 50), first(1)),
                         [[-33], [2], [0, 1], [2], [-33]])

    def test_no_such_part(self):
        self.assertEqual(ask(0, (0, 0), (1, 1), first(2), first(3), first(GREATEST)), [[0, 2], [-2], [-2]])
        self.assertEqual(ask(0, (), (), first(0), first(1)), [[-2], [-2]])

    def test_part_0_is_none_and_that_is_told_first(self):
        self.assertEqual(ask(0, (0, 1), (1, 1), first(0)), [[-2]])

    def test_against_a_walk(self):
        source = random.Random(14)
        for count in range(1, 6):
            for hung_on in shapes(count):
                self.check(source.randint(-5, 5), hung_on, source.choices(range(-6, 7), k=count))

    def test_some_of_seven_boughs_against_a_walk(self):
        for first_lean, hung_on, changes in trees(147, 7, 4, range(-50, 51)):
            self.check(first_lean, hung_on, changes)

    def check(self, first_lean, hung_on, changes):
        parts = range(1, len(hung_on) + 1)
        found = ask(first_lean, hung_on, changes, right(), *[first(part) for part in parts])
        for part, answer in zip(parts, found[1:]):
            if children(hung_on, part):
                expected = [-33]
            else:
                expected = [0, walk_first(first_lean, hung_on, changes, part)]
            self.assertEqual(answer, expected, (first_lean, hung_on, changes, part))
        # Some part is the first of the order by which it leans least far.
        self.assertEqual(min(answer[1] for answer in found[1:] if answer != [-33]), found[0][1])


class Keeps(unittest.TestCase):
    def test_by_hand(self):
        self.assertEqual(ask(0, (0, 0), (3, -3), keeps(2), keeps(3), keeps(4), keeps(0), keeps(GREATEST)),
                         [[0], [1], [1], [0], [1]])

    def test_a_lean_of_0(self):
        self.assertEqual(ask(0, (), (), keeps(0)), [[1]])
        self.assertEqual(ask(0, (0, 0), (0, 0), keeps(0)), [[1]])

    def test_to_the_left_as_to_the_right(self):
        self.assertEqual(ask(-200, (), (), keeps(199), keeps(200)), [[0], [1]])
        self.assertEqual(ask(200, (), (), keeps(199), keeps(200)), [[0], [1]])

    def test_the_farthest_there_is(self):
        self.assertEqual(ask(200, range(8), (50,) * 8, keeps(599), keeps(600)), [[0], [1]])

    def test_at_what_both_tells_and_one_below_it_on_every_shape(self):
        source = random.Random(15)
        for count in range(6):
            for hung_on in shapes(count):
                first_lean, changes = source.randint(-5, 5), source.choices(range(-6, 7), k=count)
                farthest = walk(first_lean, hung_on, changes, EITHER)[0]
                calls = [both(), keeps(farthest), keeps(farthest + 1)] + [keeps(farthest - 1)] * (farthest > 0)
                self.assertEqual(ask(first_lean, hung_on, changes, *calls),
                                 [[0, farthest], [1], [1]] + [[0]] * (farthest > 0), (first_lean, hung_on, changes))

    def test_just_where_some_order_keeps_so_near(self):
        for first_lean, hung_on, changes in trees(151, 4, 60, (-3, -1, 0, 1, 2)):
            farthest = walk(first_lean, hung_on, changes, EITHER)[0]
            answers = ask(first_lean, hung_on, changes, *[keeps(g) for g in range(215)])
            self.assertEqual(answers, [[int(g >= farthest)] for g in range(215)])


class IfChange(unittest.TestCase):
    def test_by_hand(self):
        self.assertEqual(ask(0, (0, 1), (5, -2), ifchange(1, 50), ifchange(2, 60), ifchange(1, 55), right()),
                         [[0, 0], [0, 15], [0, 3], [0, 3]])

    def test_c_at_its_edges(self):
        self.assertEqual(ask(0, (0,), (1,), ifchange(1, 0), ifchange(1, 100), ifchange(1, 101), ifchange(1, GREATEST)),
                         [[0, 0], [0, 50], [-22], [-22]])
        self.assertEqual(ask(-200, (0,), (1,), ifchange(1, 0), ifchange(1, 100)), [[0, -200], [0, -150]])

    def test_no_such_part_and_the_trunk(self):
        calls = [ifchange(2, 50), ifchange(3, 50), ifchange(0, 50), ifchange(GREATEST, 50)]
        self.assertEqual(ask(0, (0, 0), (1, 1), *calls), [[0, 1], [-2], [-2], [-2]])
        self.assertEqual(run(begin(200), ifchange(0, 50), ifchange(1, 50)), [[0], [-2], [-2]])

    def test_which_refusal_is_told_first(self):
        self.assertEqual(ask(0, (0,), (1,), ifchange(0, 101), ifchange(2, 101), ifchange(1, 101)), [[-2], [-2], [-22]])

    def test_against_a_walk(self):
        source = random.Random(16)
        for count in range(1, 5):
            for hung_on in shapes(count):
                first_lean, changes = source.randint(-5, 5), source.choices(range(-6, 7), k=count)
                for part in range(1, count + 1):
                    for c in (0, 46, 50, 53, 100):
                        other = changes[:part - 1] + [c - 50] + changes[part:]
                        self.assertEqual(ask(first_lean, hung_on, changes, ifchange(part, c)),
                                         [[0, walk(first_lean, hung_on, other, RIGHT)[0]]])

    def test_tells_what_right_tells_behind_change(self):
        for first_lean, hung_on, changes in trees(161, 8, 60, range(-50, 51)):
            part, c = 1 + abs(first_lean) % 8, 50 - changes[0]
            would, was, is_so = ask(first_lean, hung_on, changes, ifchange(part, c), change(part, c), right())
            self.assertEqual(would, is_so)

    def test_leaves_the_tree_as_it_was(self):
        hung_on, changes = (0, 1, 1, 0), (3, -4, 5, -6)
        calls = [right(), both(), state()] + [look(part) for part in range(1, 5)] + everything(4)
        as_it_was = ask(7, hung_on, changes, *calls)
        for part in range(6):
            for c in (0, 50, 100, 101):
                self.assertEqual(ask(7, hung_on, changes, ifchange(part, c), *calls)[1:], as_it_was)


class IfLean(unittest.TestCase):
    def test_by_hand(self):
        self.assertEqual(ask(0, (0, 1), (5, -2), iflean(200), iflean(199), iflean(190), iflean(210), both()),
                         [[0, 3], [0, 3], [0, 12], [0, 13], [0, 3]])

    def test_l_at_its_edges(self):
        self.assertEqual(ask(0, (0,), (1,), iflean(0), iflean(400), iflean(401), iflean(GREATEST)),
                         [[0, 200], [0, 201], [-22], [-22]])

    def test_the_trunk_alone(self):
        self.assertEqual(ask(9, (), (), iflean(0), iflean(195), iflean(200), iflean(400), iflean(401)),
                         [[0, 200], [0, 5], [0, 0], [0, 200], [-22]])

    def test_against_a_walk(self):
        source = random.Random(17)
        for count in range(5):
            for hung_on in shapes(count):
                first_lean, changes = source.randint(-5, 5), source.choices(range(-6, 7), k=count)
                for l in (0, 196, 200, 203, 400):
                    self.assertEqual(ask(first_lean, hung_on, changes, iflean(l)),
                                     [[0, walk(l - 200, hung_on, changes, EITHER)[0]]])

    def test_tells_what_both_tells_behind_lean(self):
        for first_lean, hung_on, changes in trees(171, 8, 60, range(-50, 51)):
            l = 200 + sum(changes) // 3
            would, was, is_so = ask(first_lean, hung_on, changes, iflean(l), lean(l), both())
            self.assertEqual(would, is_so)

    def test_leaves_the_tree_as_it_was(self):
        hung_on, changes = (0, 1, 1, 0), (3, -4, 5, -6)
        calls = [right(), both(), state()] + [look(part) for part in range(1, 5)] + everything(4)
        as_it_was = ask(7, hung_on, changes, *calls)
        for l in (0, 200, 207, 400, 401):
            self.assertEqual(ask(7, hung_on, changes, iflean(l), *calls)[1:], as_it_was)


if __name__ == "__main__":
    unittest.main()
