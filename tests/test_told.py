"""told: the rows of the tree, by hand, against the document's words, and against right."""

import random
import unittest
from itertools import product

from tests.helper import ask, belongs_ahead, is_order, leans_of, plain_rows, right, shapes, told


class ByHand(unittest.TestCase):
    def check(self, first_lean, hung_on, changes, answer):
        self.assertEqual(ask(first_lean, hung_on, changes, told()), [answer])

    def test_the_trunk_alone(self):
        self.check(-7, (), (), [0, -7])

    def test_a_row_of_boughs_each_on_the_one_before(self):
        self.check(1, (0, 1, 2, 3), (-7, 2, -4, 6), [0, 7, 4, 3, 2, 1])

    def test_all_on_the_trunk(self):
        # Those that fall by their peaks, then those that rise, which are all alike: each has its peak at its end.
        self.check(0, (0, 0, 0, 0, 0), (3, -2, 5, -4, 0), [0, 2, 4, 2, 5, 1, 3])

    def test_changes_of_0_count_as_not_above_0(self):
        self.check(0, (0, 0, 0), (1, 0, -1), [0, 0, 3, 2, 1])

    def test_alike_ones_by_their_boughs(self):
        self.check(0, (0, 0, 1, 2), (2, 2, -5, -5), [0, 0, 3, 4, 1, 2])

    def test_alike_ones_by_their_boughs_not_by_their_first_parts(self):
        # Row 4 is of bough 1, row 3 of bough 2.
        self.check(0, (0, 0, 2, 1), (2, 2, -5, -5), [0, 0, 4, 3, 1, 2])

    def test_alike_ones_as_they_were_for_their_bough(self):
        self.check(0, (0, 1, 2, 0), (-1, -1, -1, -1), [0, 0, 3, 2, 1, 4])

    def test_a_row_that_falls_as_far_as_it_rises(self):
        # Row 2, 1 has peak 3 and total 0, so it is behind 3 (peak -1) and ahead of 4, which rises.
        self.check(0, (0, 1, 0, 0), (-3, 3, -1, 1), [0, 2, 3, 2, 1, 4])

    def test_a_row_that_falls_as_far_as_it_rises_with_a_lesser_peak(self):
        # Row 2, 1 has peak 3 and total 0; row 4, 3 has peak 2 and total -1.
        self.check(0, (0, 1, 0, 3), (-3, 3, -3, 2), [0, 2, 4, 3, 2, 1])

    def test_two_that_rise_the_farther_above_its_total_ahead(self):
        # Row 2, 1 has peak 4, total 1; row 4, 3 has peak 9, total 4: that is 3 and 5 above.
        self.check(0, (0, 1, 0, 3), (-3, 4, -5, 9), [0, 9, 4, 3, 2, 1])

    def test_a_bough_that_rises_and_what_hangs_on_it_that_falls(self):
        self.check(0, (0, 1, 0), (5, -5, -1), [0, 0, 2, 3, 1])

    def test_a_first_lean_far_to_the_left(self):
        self.check(-200, (0, 1, 0), (-3, 3, 1), [0, -197, 2, 1, 3])

    def test_the_lean_at_first_counts(self):
        self.check(200, (0, 0), (-1, -2), [0, 200, 2, 1])

    def test_three_rows_that_become_one(self):
        # 3 and 2 are two rows, alike; 1 belongs ahead of 2, and 2, 1 ahead of 3: 3, 2, 1 has peak 2, total -3.
        self.check(0, (0, 1, 2, 0, 0), (-5, 1, 1, -1, 2), [0, 1, 4, 3, 2, 1, 5])
        self.check(0, (0, 1, 1, 0, 0), (-5, 1, 1, -1, 2), [0, 1, 4, 2, 3, 1, 5])

    def test_two_rows_that_become_one_behind_one_that_stays(self):
        # For 1 there are 3 (peak -4) and 2, 1 (peak 2, total -1); 4 has its place between them.
        self.check(0, (0, 1, 2, 0), (-3, 2, -4, -1), [0, 0, 3, 4, 2, 1])


class AgainstTheWords(unittest.TestCase):
    def check(self, first_lean, hung_on, changes):
        rows = plain_rows(hung_on, changes)
        parts = [part for row in rows for part in row]
        answer, far_right = ask(first_lean, hung_on, changes, told(), right())
        named = (first_lean, hung_on, changes)
        self.assertEqual(answer, [0, max(leans_of(first_lean, changes, parts))] + parts, named)
        self.assertTrue(is_order(hung_on, parts), named)
        self.assertEqual(answer[:2], far_right, named)

    def test_every_tree_of_three_boughs_at_most(self):
        for count in range(4):
            for hung_on in shapes(count):
                for changes in product((-2, -1, 0, 1, 2), repeat=count):
                    self.check(0, hung_on, changes)

    def test_every_shape_of_four_boughs(self):
        for hung_on in shapes(4):
            for changes in product((-3, -1, 0, 2), repeat=4):
                self.check(0, hung_on, changes)

    def test_every_shape_of_five_and_six_boughs(self):
        source = random.Random(56)
        for count in (5, 6):
            for hung_on in shapes(count):
                self.check(source.randint(-5, 5), hung_on, source.choices(range(-4, 5), k=count))

    def test_some_of_eight_boughs(self):
        source = random.Random(8)
        for k in range(400):
            hung_on = [source.randrange(part) for part in range(1, 9)]
            self.check(source.choice((-200, -20, 0, 200)), hung_on, source.choices(range(-50, 51), k=8))

    def test_the_words_themselves(self):
        changes = (-3, 4, 0, -1, 9)
        self.assertTrue(belongs_ahead(changes, [4], [3]))
        self.assertTrue(belongs_ahead(changes, [3], [2]))
        self.assertTrue(belongs_ahead(changes, [2, 1], [5]))
        self.assertFalse(belongs_ahead(changes, [5], [2, 1]))
        self.assertFalse(belongs_ahead(changes, [2], [5]) or belongs_ahead(changes, [5], [2]))


if __name__ == "__main__":
    unittest.main()
