"""boughs, look, ends, state: what they tell, behind each call that changes the tree, and what they refuse."""

import unittest

from tests.helper import (ask, begin, bough, boughs, change, children, ends, lean, less, look, run, shapes, state,
                          trees)

GREATEST = 4294967295


class Boughs(unittest.TestCase):
    def test_those_that_hang_on_it_rising(self):
        # Part 5 hangs on part 1, as 2 does; 3 and 4 on 2; 6 on the trunk.
        self.assertEqual(ask(0, (0, 1, 2, 2, 1, 0), (1,) * 6, *[boughs(part) for part in range(7)]),
                         [[2, 1, 6], [2, 2, 5], [2, 3, 4], [0], [0], [0], [0]])

    def test_not_on_what_hangs_on_it(self):
        self.assertEqual(ask(0, (0, 1, 2), (1, 1, 1), boughs(0), boughs(1), boughs(2), boughs(3)),
                         [[1, 1], [1, 2], [1, 3], [0]])

    def test_part_0_is_one(self):
        self.assertEqual(run(begin(200), boughs(0), bough(0, 50), boughs(0)), [[0], [0], [1], [1, 1]])
        self.assertEqual(ask(0, (0,) * 8, (1,) * 8, boughs(0)), [[8, 1, 2, 3, 4, 5, 6, 7, 8]])

    def test_no_such_part(self):
        self.assertEqual(run(begin(200), boughs(1)), [[0], [-2]])
        self.assertEqual(ask(0, (0, 0), (1, 1), boughs(2), boughs(3), boughs(GREATEST)), [[0], [-2], [-2]])

    def test_behind_each_call_that_changes_the_tree(self):
        calls = [bough(1, 50), boughs(1), bough(0, 50), boughs(0), boughs(1), change(1, 60), boughs(1), lean(0),
                 boughs(1), less(), boughs(0), boughs(3), less(), boughs(1), begin(200), boughs(0), boughs(1)]
        self.assertEqual(ask(0, (0,), (1,), *calls),
                         [[2], [1, 2], [3], [2, 1, 3], [1, 2], [0, 1], [1, 2], [0, 0],
                          [1, 2], [3], [1, 1], [-2], [2], [0], [0], [0], [-2]])

    def test_every_small_shape(self):
        for count in range(6):
            for hung_on in shapes(count):
                answers = ask(0, hung_on, (1,) * count, *[boughs(part) for part in range(count + 1)])
                expected = [children(hung_on, part) for part in range(count + 1)]
                self.assertEqual(answers, [[len(parts)] + parts for parts in expected])


class Look(unittest.TestCase):
    def test_on_which_it_hangs_and_its_change(self):
        self.assertEqual(ask(9, (0, 1, 1, 3), (-50, 50, 0, -7), look(1), look(2), look(3), look(4)),
                         [[0, -50], [1, 50], [1, 0], [3, -7]])

    def test_part_0_is_none(self):
        self.assertEqual(run(begin(200), look(0), bough(0, 50), look(0)), [[0], [-2], [1], [-2]])

    def test_no_such_part(self):
        self.assertEqual(ask(0, (0, 1), (1, 2), look(2), look(3), look(GREATEST)), [[1, 2], [-2], [-2]])
        self.assertEqual(run(begin(200), look(1)), [[0], [-2]])

    def test_behind_each_call_that_changes_the_tree(self):
        calls = [bough(1, 48), look(2), change(2, 57), look(2), look(1), lean(0), look(2), less(), look(2), look(1),
                 bough(0, 51), look(2), begin(200), look(1), bough(0, 45), look(1)]
        self.assertEqual(ask(0, (0,), (1,), *calls),
                         [[2], [1, -2], [0, -2], [1, 7], [0, 1], [0, 0], [1, 7], [2], [-2], [0, 1],
                          [2], [0, 1], [0], [-2], [1], [0, -5]])

    def test_refused_changes_leave_what_it_tells(self):
        calls = [change(1, 101), bough(0, 101), bough(2, 50), look(1), look(2)]
        self.assertEqual(ask(0, (0,), (1,), *calls), [[-22], [-22], [-2], [0, 1], [-2]])


class Ends(unittest.TestCase):
    def test_the_lean_at_first_and_when_all_are_off(self):
        self.assertEqual(ask(4, (0, 1, 0), (5, -20, 3), ends()), [[0, 4, -8]])

    def test_the_trunk_alone(self):
        self.assertEqual(ask(-7, (), (), ends()), [[0, -7, -7]])

    def test_the_farthest_there_are(self):
        self.assertEqual(ask(200, (0,) * 8, (50,) * 8, ends()), [[0, 200, 600]])
        self.assertEqual(ask(-200, range(8), (-50,) * 8, ends()), [[0, -200, -600]])

    def test_behind_each_call_that_changes_the_tree(self):
        calls = [bough(1, 48), ends(), change(2, 57), ends(), lean(190), ends(), less(), ends(), begin(203), ends()]
        self.assertEqual(ask(5, (0,), (1,), *calls)[1::2],
                         [[0, 5, 4], [0, 5, 13], [0, -10, -2], [0, -10, -9], [0, 3, 3]])

    def test_changes_added(self):
        for first_lean, hung_on, changes in trees(20, 8, 60, range(-50, 51)):
            self.assertEqual(ask(first_lean, hung_on, changes, ends()), [[0, first_lean, first_lean + sum(changes)]])


class State(unittest.TestCase):
    def test_how_many_parts_and_the_lean_at_first(self):
        self.assertEqual(ask(-3, (0, 1, 0), (5, -20, 3), state()), [[0, 4, -3]])

    def test_the_edges(self):
        self.assertEqual(ask(-200, (), (), state()), [[0, 1, -200]])
        self.assertEqual(ask(200, (0,) * 8, (1,) * 8, state()), [[0, 9, 200]])

    def test_behind_each_call_that_changes_the_tree(self):
        calls = [bough(1, 48), state(), change(2, 57), state(), lean(190), state(), less(), state(),
                 begin(203), state()]
        self.assertEqual(ask(5, (0,), (1,), *calls)[1::2],
                         [[0, 3, 5], [0, 3, 5], [0, 3, -10], [0, 2, -10], [0, 1, 3]])

    def test_behind_refusals(self):
        calls = [begin(401), state(), bough(2, 50), state(), bough(0, 101), state(), lean(401), state(),
                 less(), less(), state()]
        self.assertEqual(ask(5, (0,), (1,), *calls),
                         [[-22], [0, 2, 5], [-2], [0, 2, 5], [-22], [0, 2, 5], [-22], [0, 2, 5], [1], [-6], [0, 1, 5]])


if __name__ == "__main__":
    unittest.main()
