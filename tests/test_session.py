"""begin, bough, change, less, lean: what they answer, what they refuse; no refusal and no looking changes anything."""

import unittest
from itertools import permutations

from tests.helper import (ask, begin, both, bough, boughs, change, ends, everything, first, grow, ifchange, iflean,
                          keeps, lean, left, less, look, may, order, right, rows, run, state, told, try_order, ways)

GREATEST = 4294967295
OTHERS = [bough(0, 50), bough(9, 101), change(1, 50), change(0, 101), less(), lean(200), lean(401), try_order([]),
          try_order([1, 1]), right(), left(), both(), order(0), order(3), told(), rows(), ways(), may([]), may([0]),
          first(0), first(1), keeps(0), keeps(GREATEST), ifchange(1, 50), ifchange(0, 101), iflean(200), iflean(401),
          boughs(0), boughs(1), look(0), look(1), ends(), state()]


def reading(hung_on):
    """Calls that tell all there is of a small tree, then take it down."""
    count = len(hung_on)
    calls = everything(count)
    calls += [try_order(row) for row in permutations(range(1, count + 1))]
    calls += [lean(200)] + [change(part, 50) for part in range(1, count + 1)]
    return calls + [less()] * (count + 1)


class NotBegun(unittest.TestCase):
    def test_each_other_call_ahead_of_a_begin(self):
        for call in OTHERS:
            with self.subTest(call=call):
                self.assertEqual(run(call), [[-11]])

    def test_all_of_them_one_behind_another(self):
        self.assertEqual(run(*OTHERS), [[-11]] * len(OTHERS))

    def test_a_refused_begin_is_none(self):
        for l in (401, 402, GREATEST):
            for call in OTHERS:
                with self.subTest(l=l, call=call):
                    self.assertEqual(run(begin(l), call), [[-22], [-11]])

    def test_calls_ahead_of_a_begin_leave_nothing(self):
        calls = [bough(0, 60), lean(300), begin(200), right(), less()]
        self.assertEqual(run(*calls), [[-11], [-11], [0], [0, 0], [-6]])


class Begin(unittest.TestCase):
    def test_edges(self):
        self.assertEqual(run(begin(0), right()), [[0], [0, -200]])
        self.assertEqual(run(begin(400), right()), [[0], [0, 200]])
        self.assertEqual(run(begin(401)), [[-22]])
        self.assertEqual(run(begin(GREATEST)), [[-22]])

    def test_trunk_alone_behind_it(self):
        self.assertEqual(run(begin(200), less(), order(0)), [[0], [-6], [0]])

    def test_a_second_begin_is_a_new_tree(self):
        calls = [begin(210), bough(0, 60), bough(1, 70), begin(195), right(), told(), less(), change(1, 50),
                 bough(1, 50), bough(0, 51)]
        self.assertEqual(run(*calls), [[0], [1], [2], [0], [0, -5], [0, -5], [-6], [-2], [-2], [1]])

    def test_a_refused_second_begin_changes_nothing(self):
        hung_on, changes = (0, 1, 1), (3, -4, 5)
        calls = reading(hung_on)
        self.assertEqual(ask(7, hung_on, changes, begin(401), *calls)[1:], ask(7, hung_on, changes, *calls))


class Bough(unittest.TestCase):
    def test_answers_its_number(self):
        calls = [begin(200)] + [bough(0, 50)] * 8
        self.assertEqual(run(*calls), [[0]] + [[part] for part in range(1, 9)])

    def test_hangs_where_it_is_told(self):
        calls = [bough(0, 50), bough(1, 50), bough(1, 50), try_order([2, 1, 3]), try_order([2, 3, 1])]
        self.assertEqual(run(begin(200), *calls)[4:], [[1, 1], [0, 0, 0]])

    def test_change_at_its_edges(self):
        self.assertEqual(run(begin(200), bough(0, 0), change(1, 50)), [[0], [1], [0, -50]])
        self.assertEqual(run(begin(200), bough(0, 100), change(1, 50)), [[0], [1], [0, 50]])
        self.assertEqual(run(begin(200), bough(0, 101)), [[0], [-22]])
        self.assertEqual(run(begin(200), bough(0, GREATEST)), [[0], [-22]])

    def test_no_such_part(self):
        self.assertEqual(run(begin(200), bough(1, 50)), [[0], [-2]])
        self.assertEqual(run(begin(200), bough(0, 50), bough(1, 50), bough(3, 50)), [[0], [1], [2], [-2]])
        self.assertEqual(run(begin(200), bough(GREATEST, 50)), [[0], [-2]])

    def test_nine_parts_and_no_more(self):
        full = [begin(200)] + [bough(0, 50)] * 8
        self.assertEqual(run(*full, bough(0, 50), bough(8, 0), less(), bough(7, 50), bough(0, 50))[9:],
                         [[-28], [-28], [8], [8], [-28]])

    def test_which_refusal_is_told_first(self):
        full = [begin(200)] + [bough(0, 50)] * 8
        self.assertEqual(run(*full, bough(9, 101), bough(9, 50), bough(8, 101), bough(8, 100))[9:],
                         [[-2], [-2], [-22], [-28]])
        self.assertEqual(run(begin(200), bough(1, 101)), [[0], [-2]])


class Change(unittest.TestCase):
    def test_tells_what_it_was(self):
        calls = [begin(200), bough(0, 53), bough(0, 40), change(1, 0), change(1, 100), change(1, 50), change(2, 50)]
        self.assertEqual(run(*calls)[3:], [[0, 3], [0, -50], [0, 50], [0, -10]])

    def test_is_the_change_from_then_on(self):
        self.assertEqual(run(begin(200), bough(0, 53), change(1, 57), right(), try_order([1]))[3:],
                         [[0, 7], [0, 7, 0]])

    def test_edges(self):
        calls = [begin(200), bough(0, 50), change(1, 101), change(1, GREATEST), change(1, 100), change(1, 0)]
        self.assertEqual(run(*calls)[2:], [[-22], [-22], [0, 0], [0, 50]])

    def test_no_such_part_and_the_trunk(self):
        calls = [begin(200), change(0, 50), bough(0, 50), change(0, 50), change(2, 50), change(GREATEST, 50)]
        self.assertEqual(run(*calls), [[0], [-2], [1], [-2], [-2], [-2]])

    def test_which_refusal_is_told_first(self):
        self.assertEqual(run(begin(200), bough(0, 50), change(0, 101), change(2, 101))[2:], [[-2], [-2]])


class Less(unittest.TestCase):
    def test_tells_how_many_there_are(self):
        calls = [begin(200), bough(0, 50), bough(1, 50), less(), less(), less(), less()]
        self.assertEqual(run(*calls)[3:], [[2], [1], [-6], [-6]])

    def test_the_last_one_is_gone(self):
        calls = [begin(200), bough(0, 51), bough(0, 52), less(), change(2, 50), bough(2, 50), right(), change(1, 50)]
        self.assertEqual(run(*calls)[3:], [[2], [-2], [-2], [0, 1], [0, 1]])

    def test_and_then_a_bough_again(self):
        calls = [begin(200), bough(0, 51), bough(1, 99), less(), bough(0, 45), try_order([1, 2]), change(2, 50)]
        self.assertEqual(run(*calls)[3:], [[2], [2], [0, 1, -4], [0, -5]])


class Lean(unittest.TestCase):
    def test_tells_what_it_was(self):
        calls = [begin(193), lean(0), lean(400), lean(200), right()]
        self.assertEqual(run(*calls), [[0], [0, -7], [0, -200], [0, 200], [0, 0]])

    def test_edges(self):
        calls = [begin(205), lean(401), lean(GREATEST), lean(400), lean(0), right()]
        self.assertEqual(run(*calls), [[0], [-22], [-22], [0, 5], [0, 200], [0, -200]])

    def test_keeps_the_parts(self):
        self.assertEqual(run(begin(205), bough(0, 60), lean(201), try_order([1]), less())[2:],
                         [[0, 5], [0, 11, 1], [1]])


class NothingChanged(unittest.TestCase):
    def test_by_a_refusal(self):
        hung_on, changes = (0, 1, 1, 0), (3, -4, 5, -6)
        calls = reading(hung_on)
        as_it_was = ask(7, hung_on, changes, *calls)
        refused = [(begin(401), -22), (bough(5, 50), -2), (bough(0, 101), -22), (change(0, 60), -2),
                   (change(5, 60), -2), (change(1, 101), -22), (lean(401), -22), (try_order([1, 2, 3]), -22),
                   (order(3), -22), (may([1, 2]), -22), (may([4, 4]), -22), (first(5), -2), (first(1), -33),
                   (ifchange(0, 60), -2), (ifchange(5, 60), -2), (ifchange(1, 101), -22), (iflean(401), -22),
                   (boughs(5), -2), (look(0), -2), (look(5), -2)]
        for call, number in refused:
            with self.subTest(call=call):
                self.assertEqual(ask(7, hung_on, changes, call, *calls), [[number]] + as_it_was)

    def test_by_too_many(self):
        full = grow(3, (0, 1, 1, 0, 4, 4, 0, 7), (1, -2, 3, -4, 5, -6, 7, -8))
        calls = everything(8) + [change(part, 50) for part in range(1, 9)] + [less()] * 9
        self.assertEqual(run(*full, bough(0, 60), *calls)[10:], run(*full, *calls)[9:])

    def test_by_less_on_the_trunk_alone(self):
        self.assertEqual(run(begin(205), less(), right(), bough(0, 51), right())[1:], [[-6], [0, 5], [1], [0, 6]])

    def test_by_looking(self):
        looks = [right(), left(), both(), order(0), order(1), order(2), told(), try_order([3, 2, 1, 4]),
                 try_order([1, 2, 3, 4]), rows(), ways(), may([]), may([4, 2]), may([3, 2, 1, 4]), first(2), first(4),
                 keeps(0), keeps(9), keeps(GREATEST), ifchange(1, 0), ifchange(3, 100), iflean(0), iflean(400),
                 boughs(0), boughs(1), boughs(4), look(1), look(4), ends(), state()]
        hung_on, changes = (0, 1, 1, 0), (3, -4, 5, -6)
        calls = reading(hung_on)
        as_it_was = ask(7, hung_on, changes, *calls)
        for call in looks:
            with self.subTest(call=call):
                self.assertEqual(ask(7, hung_on, changes, call, *calls)[1:], as_it_was)
        self.assertEqual(ask(7, hung_on, changes, *looks, *calls)[len(looks):], as_it_was)

    def test_by_looking_at_the_trunk_alone(self):
        calls = everything(0)
        as_it_was = ask(-7, (), (), *calls)
        for call in calls + [ifchange(1, 0), iflean(0), keeps(0), may([1]), try_order([])]:
            with self.subTest(call=call):
                self.assertEqual(ask(-7, (), (), call, *calls)[1:], as_it_was)


if __name__ == "__main__":
    unittest.main()
