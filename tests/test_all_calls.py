"""All calls together: whole sessions against the document's words, and what holds, a to e."""

import random
import unittest

from leaning.boughs import answers
from tests.helper import (PlainTree, apart, ask, begin, both, bough, boughs, change, ends, everything, first, flat,
                          grow, ifchange, iflean, is_order, keeps, lean, leans_of, left, less, look, may, order,
                          right, rows, run, state, told, trees, try_order, ways)

GREATEST = 4294967295


def some_row(source):
    """Rows that are orders or the beginnings of such rather often, and otherwise anything."""
    kind = source.randrange(4)
    parts = list(range(source.randint(0, 6), 0, -1))
    if kind == 0:
        source.shuffle(parts)
    if kind == 1:
        parts = parts[:source.randint(0, 6)]
    if kind == 2:
        parts = [source.choice((0, 1, 2, 3, 4, 5, 9, 65535)) for k in range(source.randint(0, 6))]
    return parts


def some_call(source, parts_wanted):
    """A call that is right rather often, so that trees of about so many parts come to be."""
    part = source.choice((0, 1, 1, 2, 2, 3, 4, 5, 9, GREATEST))
    c = source.choice((0, 43, 47, 49, 50, 51, 52, 58, 100, 101, GREATEST))
    l = source.choice((0, 190, 198, 200, 203, 211, 400, 401, GREATEST))
    changing = [bough(source.randint(0, 3), c) for k in range(parts_wanted)]
    changing += [change(part, c), change(part, c), less(), lean(l), begin(l)]
    looking = [right(), left(), both(), order(source.choice((0, 1, 2, 3))), told(), rows(), ways(), first(part),
               keeps(source.randint(0, 30)), ifchange(part, c), iflean(l), boughs(part), look(part), ends(), state(),
               try_order(some_row(source)), may(some_row(source))]
    return source.choice(changing) if source.randrange(3) == 0 else source.choice(looking)


def some_session(source, count, most_parts):
    """So many calls on a tree that never has more parts than that, and what the document's words answer."""
    plain = PlainTree()
    calls, expected = [], []
    while len(calls) < count:
        call = some_call(source, 6)
        if call[0] != 1 or len(plain.hung_on) + 1 < most_parts:
            calls.append(call)
            expected.append(plain.answer(call))
    return calls, expected


class Sessions(unittest.TestCase):
    def check(self, calls, expected):
        handed_in = flat(calls)
        for k, answer in enumerate(apart(answers(handed_in))):
            self.assertEqual(answer, expected[k], (k, calls[:k + 1]))
        self.assertEqual(handed_in, flat(calls))

    def test_against_the_words(self):
        source = random.Random(2110)
        for k in range(30):
            self.check(*some_session(source, 256, 6))

    def test_short_ones_against_the_words(self):
        source = random.Random(2111)
        for k in range(200):
            self.check(*some_session(source, 12, 5))

    def test_full_trees_against_the_words(self):
        source = random.Random(2112)
        for first_lean, hung_on, changes in trees(21, 8, 2, range(-50, 51)):
            calls = grow(first_lean, hung_on, changes)
            calls += [bough(0, 50), may([8]), first(8), ifchange(5, 61), iflean(188), rows(), ways(),
                      keeps(source.randint(0, 200)), less()]
            plain = PlainTree()
            self.check(calls, [plain.answer(call) for call in calls])

    def test_every_kind_of_answer_comes_up(self):
        source = random.Random(2110)
        seen = set()
        for k in range(30):
            for call, answer in zip(*some_session(source, 256, 6)):
                seen.add((call[0], min(answer[0], 1)))
        for number, first_number in ((1, -2), (1, -22), (2, -2), (2, -22), (2, 0), (3, -6), (4, -22), (5, -22), (5, 0),
                                     (5, 1), (9, -22), (11, 0), (11, 1), (13, -22), (13, 0), (13, 1), (14, -2),
                                     (14, -33), (14, 0), (15, 0), (15, 1), (16, -2), (16, -22), (16, 0), (17, -22),
                                     (17, 0), (18, -2), (18, 0), (18, 1), (19, -2), (19, 0), (19, 1)):
            self.assertIn((number, first_number), seen)


class WhatHolds(unittest.TestCase):
    def test_a_by_no_order_does_it_lean_less_far(self):
        for first_lean, hung_on, changes in trees(31, 8, 60, range(-50, 51)):
            parts = range(1, 9)
            far_right, far_left, far_both, *others = ask(
                first_lean, hung_on, changes, right(), left(), both(), order(0), order(1), order(2), told(),
                *[first(part) for part in parts])
            for answer in others[:3]:
                self.assertTrue(is_order(hung_on, answer[1:]))
                leans = leans_of(first_lean, changes, answer[1:])
                self.assertGreaterEqual(max(leans), far_right[1])
                self.assertLessEqual(min(leans), far_left[1])
                self.assertGreaterEqual(max(abs(lean) for lean in leans), far_both[1])
            self.assertTrue(is_order(hung_on, others[3][2:]))
            by_first = {part: answer[1] for part, answer in zip(parts, others[4:]) if answer[0] == 0}
            self.assertEqual(min(by_first.values()), far_right[1])
            self.assertEqual(by_first[others[0][1]], far_right[1])
            self.assertEqual(by_first[others[3][2]], far_right[1])

    def test_a_each_order_may_come_off_part_by_part(self):
        for first_lean, hung_on, changes in trees(32, 8, 40, range(-50, 51)):
            for asked, skipped in ((order(0), 1), (order(1), 1), (order(2), 1), (told(), 2)):
                row = ask(first_lean, hung_on, changes, asked)[0][skipped:]
                answer = ask(first_lean, hung_on, changes, *[may(row[:k]) for k in range(9)])
                self.assertEqual(answer[8], [0])
                for part, next_ones in zip(row, answer):
                    self.assertIn(part, next_ones[1:])

    def test_b_by_the_rows_no_farther_to_the_right_than_it_must(self):
        for first_lean, hung_on, changes in trees(33, 8, 100, (-4, -2, -1, 0, 1, 3)):
            found, by_rows, far_right = ask(first_lean, hung_on, changes, rows(), told(), right())
            farthest, lean_now = first_lean, first_lean
            for k in range(1, len(found), 3):
                farthest, lean_now = max(farthest, lean_now + found[k + 1]), lean_now + found[k + 2]
            self.assertEqual([far_right[1], by_rows[1]], [farthest, farthest])

    def test_c_the_other_way_about(self):
        for first_lean, hung_on, changes in trees(34, 8, 40, range(-50, 51)):
            calls = [ways(), keeps(40), keeps(150), keeps(220), both(), may([])]
            turned = (-first_lean, hung_on, [-c for c in changes])
            self.assertEqual(ask(*turned, *calls), ask(first_lean, hung_on, changes, *calls))
            self.assertEqual(ask(*turned, iflean(150)), ask(first_lean, hung_on, changes, iflean(250)))
            self.assertEqual(ask(*turned, right())[0][1], -ask(first_lean, hung_on, changes, left())[0][1])
            at_first, at_last = ask(first_lean, hung_on, changes, ends())[0][1:]
            self.assertEqual(ask(*turned, ends()), [[0, -at_first, -at_last]])
            made_so = ask(*turned, ifchange(3, 43), change(3, 43), right())
            self.assertEqual(made_so[0], made_so[2])
            self.assertEqual(-made_so[0][1], ask(first_lean, hung_on, changes, change(3, 57), left())[1][1])

    def test_d_less_to_the_right_never_makes_it_lean_farther_there(self):
        for first_lean, hung_on, changes in trees(35, 7, 10, range(-50, 51)):
            for part in range(1, 8):
                told_so = [answer[1] for answer in
                           ask(first_lean, hung_on, changes, *[ifchange(part, c) for c in range(0, 101, 4)])]
                self.assertEqual(told_so, sorted(told_so))

    def test_d_all_on_the_trunk(self):
        for first_lean, hung_on, changes in trees(36, 8, 40, range(-50, 51)):
            at_first, at_last = ask(first_lean, (0,) * 8, changes, ends())[0][1:]
            self.assertEqual(ask(first_lean, (0,) * 8, changes, right(), told())[0], [0, max(at_first, at_last)])

    def test_e_what_is_refused_and_looking_changes_nothing(self):
        source = random.Random(37)
        for first_lean, hung_on, changes in trees(37, 5, 40, range(-50, 51)):
            made = grow(first_lean, hung_on, changes)
            telling = everything(5)
            as_it_was = run(*made, *telling)[6:]
            between = [call for call in [some_call(source, 1) for k in range(150)] if call[0] > 4]
            between += [begin(401), bough(6, 50), bough(0, 101), change(0, 50), change(6, 50), change(1, 101),
                        lean(401)]
            self.assertEqual(run(*made, *between, *telling)[6 + len(between):], as_it_was)

    def test_e_a_session_without_what_is_refused_and_looked_at(self):
        source = random.Random(38)
        for k in range(40):
            calls, expected = some_session(source, 120, 6)
            kept = [call for call, answer in zip(calls, expected) if call[0] <= 4 and answer[0] >= 0]
            telling = everything(6)
            self.assertEqual(run(*calls, *telling)[len(calls):], run(*kept, *telling)[len(kept):])


if __name__ == "__main__":
    unittest.main()
