"""rows: how many parts, the peak and the total of each; by hand, against the document's words, and against told."""

import random
import unittest
from itertools import product

from tests.helper import (ask, bough, change, lean, leans_of, less, plain_rows_told, right, rows, shapes, told, trees)


class ByHand(unittest.TestCase):
    def check(self, hung_on, changes, *parted):
        answer = [len(parted)] + [number for row in parted for number in row]
        self.assertEqual(ask(0, hung_on, changes, rows()), [answer])

    def test_no_rows_for_the_trunk_alone(self):
        self.assertEqual(ask(0, (), (), rows()), [[0]])
        self.assertEqual(ask(-200, (), (), rows()), [[0]])

    def test_one_bough(self):
        self.check((0,), (5,), (1, 5, 5))
        self.check((0,), (-5,), (1, -5, -5))
        self.check((0,), (0,), (1, 0, 0))

    def test_changes_at_their_edges(self):
        self.check((0, 0), (50, -50), (1, -50, -50), (1, 50, 50))

    def test_a_peak_is_of_one_part_at_least(self):
        # For 1 there are 2 (peak -1) and 1 (peak -2), which belongs ahead: one row, whose peak stays below 0.
        self.check((0, 1), (-2, -1), (2, -1, -3))

    def test_a_peak_within_a_row(self):
        # 4, 3, 2, 1: 6, 2, 4, -3.
        self.check((0, 1, 2, 3), (-7, 2, -4, 6), (4, 6, -3))

    def test_a_peak_at_a_rows_end(self):
        # 3 and 2 rise and are alike, and so is 1: they stay three rows.
        self.check((0, 1, 2), (3, 2, 1), (1, 1, 1), (1, 2, 2), (1, 3, 3))

    def test_all_on_the_trunk(self):
        self.check((0, 0, 0, 0, 0), (3, -2, 5, -4, 0),
                   (1, -4, -4), (1, -2, -2), (1, 0, 0), (1, 3, 3), (1, 5, 5))

    def test_changes_of_0(self):
        self.check((0, 1, 0), (0, 0, 0), (1, 0, 0), (1, 0, 0), (1, 0, 0))

    def test_a_row_that_falls_as_far_as_it_rises(self):
        self.check((0, 1, 0, 0), (-3, 3, -1, 1), (1, -1, -1), (2, 3, 0), (1, 1, 1))

    def test_two_alike(self):
        self.check((0, 1, 0, 3), (-5, 2, -6, 2), (2, 2, -3), (2, 2, -4))
        self.check((0, 1, 0, 3), (-6, 2, -5, 2), (2, 2, -4), (2, 2, -3))

    def test_alike_ones_that_rise(self):
        # Both peaks are 3 above their totals; the one of the lesser bough is ahead.
        self.check((0, 1, 0, 3), (-3, 9, -3, 5), (2, 9, 6), (2, 5, 2))
        self.check((0, 1, 0, 3), (-3, 5, -3, 9), (2, 5, 2), (2, 9, 6))

    def test_a_bough_that_rises_and_what_hangs_on_it_that_falls(self):
        self.check((0, 1), (5, -5), (1, -5, -5), (1, 5, 5))

    def test_three_rows_that_become_one(self):
        self.check((0, 1, 2), (-5, 1, 1), (3, 2, -3))
        self.check((0, 1, 1), (-5, 1, 1), (3, 2, -3))
        self.check((0, 1, 1, 0), (-5, 1, 1, 7), (3, 2, -3), (1, 7, 7))

    def test_two_rows_that_become_one_behind_one_that_stays(self):
        self.check((0, 1, 2, 0), (-3, 2, -4, -1), (1, -4, -4), (1, -1, -1), (2, 2, -1))

    def test_the_lean_at_first_counts_for_nothing(self):
        for first_lean in (-200, -1, 200):
            self.assertEqual(ask(first_lean, (0, 1, 0), (-3, 2, 4), rows()), [[2, 2, 2, -1, 1, 4, 4]])

    def test_behind_bough_change_less_and_lean(self):
        calls = [rows(), bough(0, 44), rows(), change(1, 60), rows(), lean(0), rows(), less(), rows()]
        self.assertEqual(ask(0, (0, 1), (-3, 2), *calls)[::2],
                         [[1, 2, 2, -1], [2, 1, -6, -6, 2, 2, -1], [3, 1, -6, -6, 1, 2, 2, 1, 10, 10],
                          [3, 1, -6, -6, 1, 2, 2, 1, 10, 10], [2, 1, 2, 2, 1, 10, 10]])


class AgainstTheWordsAndTold(unittest.TestCase):
    def check(self, first_lean, hung_on, changes):
        named = (first_lean, hung_on, changes)
        found, by_rows, far_right = ask(first_lean, hung_on, changes, rows(), told(), right())
        self.assertEqual(found, plain_rows_told(hung_on, changes), named)
        self.assertEqual(len(found), 1 + 3 * found[0], named)
        parts = by_rows[2:]
        farthest, lean_now = first_lean, first_lean
        for k in range(found[0]):
            count, peak, total = found[1 + 3 * k:4 + 3 * k]
            # Without the lean at first: that is what the row's changes are added from.
            leans = leans_of(0, changes, parts[:count])[1:]
            self.assertEqual((peak, total), (max(leans), leans[-1]), named)
            farthest, lean_now, parts = max(farthest, lean_now + peak), lean_now + total, parts[count:]
        self.assertEqual(parts, [], named)
        self.assertEqual([0, farthest], by_rows[:2], named)
        self.assertEqual([0, farthest], far_right, named)

    def test_every_tree_of_three_boughs_at_most(self):
        for count in range(4):
            for hung_on in shapes(count):
                for changes in product((-2, -1, 0, 1, 2), repeat=count):
                    self.check(0, hung_on, changes)

    def test_every_shape_of_four_to_six_boughs(self):
        source = random.Random(456)
        for count in (4, 5, 6):
            for hung_on in shapes(count):
                self.check(source.randint(-5, 5), hung_on, source.choices(range(-4, 5), k=count))

    def test_some_of_eight_boughs(self):
        for first_lean, hung_on, changes in trees(88, 8, 200, range(-50, 51)):
            self.check(first_lean, hung_on, changes)


if __name__ == "__main__":
    unittest.main()
