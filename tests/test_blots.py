"""Points 1 to 3, 13, 22 and 23: the fewest rows that must be blots, and the numbers that show it."""

import copy
import itertools
import random
import unittest

from inkdays.blots import fewest_blots
from inkdays.chain import earliest


def subsets(days):
    return [list(some) for many in range(len(days) + 1) for some in itertools.combinations(days, many)]


def readings_with_blots(rows, gap, length, blots):
    """Every whole reading by point 13 of the rows with some of them taken as blots."""
    taken = [range(length) if place in blots else row for place, row in enumerate(rows)]
    return [
        days for days in itertools.product(*taken)
        if all(0 <= later - sooner <= gap for sooner, later in zip(days, days[1:]))
    ]


def numbers_by_trial(rows, gap, length):
    """The numbers by point 23: all choices of blots are tried out, the fewest first."""
    told = []
    for k in range(len(rows)):
        found = {}
        for blots in subsets(range(k + 1)):
            for days in readings_with_blots(rows[:k + 1], gap, length, blots):
                found.setdefault(days[-1], len(blots))
        told.append([found[day] for day in range(length)])
    return told


def numbers_by_steps(rows, gap, length):
    told = []
    for k, row in enumerate(rows):
        numbers = []
        for day in range(length):
            ahead = 0 if k == 0 else min(told[-1][max(0, day - gap):day + 1])
            numbers.append(ahead if day in row else ahead + 1)
        told.append(numbers)
    return told


class FewestBlots(unittest.TestCase):
    def check(self, rows, gap, length, numbers):
        told = fewest_blots(rows, gap, length)
        self.assertIsInstance(told, tuple)
        self.assertEqual([part.__class__ for part in told], [list] * 3)
        places, days, told_numbers = told
        self.assertEqual(told_numbers, numbers, (rows, gap, length))
        self.assertEqual(len(days), len(rows))
        self.assertEqual(places, sorted(set(places)))
        for place, day in enumerate(days):
            self.assertIn(day, range(length))
            if place not in places:
                self.assertIn(day, rows[place], (rows, gap, length, told))
        for place in places:
            self.assertIn(place, range(len(rows)))
        for sooner, later in zip(days, days[1:]):
            self.assertTrue(0 <= later - sooner <= gap, (rows, gap, length, told))
        self.assertEqual(len(places), min(numbers[-1]) if rows else 0)
        if earliest(rows, gap) is not None:
            self.assertEqual(places, [])
        return told

    def test_a_plain_case(self):
        told = self.check([[3], [1], [4]], 5, 6, [[1, 1, 1, 0, 1, 1], [2, 1, 2, 1, 1, 1], [3, 2, 2, 2, 1, 2]])
        self.assertIn(told[0], ([0], [1]))

    def test_only_one_choice(self):
        told = self.check([[0], [4], [1]], 1, 5, [[0, 1, 1, 1, 1], [1, 1, 2, 2, 1], [2, 1, 2, 3, 2]])
        self.assertEqual(told[0], [1])
        self.assertIn(told[1], ([0, 0, 1], [0, 1, 1]))

    def test_a_row_that_is_far_ahead_may_have_to_be_one(self):
        # From 0 no steps of at most two lead on to 7.
        told = self.check([[0], [2], [4], [7]], 2, 8, numbers_by_steps([[0], [2], [4], [7]], 2, 8))
        self.assertEqual(len(told[0]), 1)
        rows = [[0], [7], [7], [7]]
        told = self.check(rows, 2, 8, numbers_by_steps(rows, 2, 8))
        self.assertEqual(told[0], [0])

    def test_of_no_rows_all_are_empty(self):
        for gap in (0, 3, 800):
            for length in (1, 5, 800):
                self.assertEqual(fewest_blots([], gap, length), ([], [], []))

    def test_where_there_is_a_whole_reading_no_row_is_a_blot(self):
        told = self.check([[0, 2], [1], [3]], 2, 4, [[0, 1, 0, 1], [1, 0, 1, 1], [2, 1, 1, 0]])
        self.assertEqual(told[:2], ([], [0, 1, 3]))
        self.assertEqual(fewest_blots([[2]], 0, 4), ([], [2], [[1, 1, 0, 1]]))

    def test_one_empty_row(self):
        for gap in (0, 1, 800):
            places, days, numbers = self.check([[]], gap, 3, [[1, 1, 1]])
            self.assertEqual(places, [0])

    def test_every_row_empty(self):
        for gap in (0, 1, 800):
            for length in (1, 2, 800):
                rows = [[] for row in range(60)]
                told = self.check(rows, gap, length, [[k + 1] * length for k in range(60)])
                self.assertEqual(told[0], list(range(60)))

    def test_empty_rows_among_others(self):
        told = self.check([[1], [], [2]], 1, 3, [[1, 0, 1], [2, 1, 1], [3, 2, 1]])
        self.assertEqual(told[0], [1])
        told = self.check([[], [1], []], 0, 2, [[1, 1], [2, 1], [3, 2]])
        self.assertEqual(told, ([0, 2], [1, 1, 1], [[1, 1], [2, 1], [3, 2]]))

    def test_an_empty_row_between_is_no_way_past_the_gap(self):
        # The blot lies within the gap of both of its neighbours, or there are two.
        rows = [[0], [], [6]]
        self.assertEqual(self.check(rows, 3, 7, numbers_by_steps(rows, 3, 7))[:2], ([1], [0, 3, 6]))
        self.assertEqual(len(self.check(rows, 2, 7, numbers_by_steps(rows, 2, 7))[0]), 2)

    def test_a_span_of_one_day(self):
        told = self.check([[0], [], [0], []], 0, 1, [[0], [1], [1], [2]])
        self.assertEqual(told[:2], ([1, 3], [0, 0, 0, 0]))

    def test_a_gap_of_nought(self):
        told = self.check([[0, 1], [1, 2], [2, 0], [2]], 0, 3, [[0, 0, 1], [1, 0, 1], [1, 1, 1], [2, 2, 1]])
        self.assertEqual(told[:2], ([0], [2, 2, 2, 2]))

    def test_the_widest_gap(self):
        rows = [[799], [0], [799], [0]]
        told = self.check(rows, 800, 800, numbers_by_steps(rows, 800, 800))
        self.assertEqual(len(told[0]), 2)
        self.assertEqual(self.check([[0], [799]], 800, 800, numbers_by_steps([[0], [799]], 800, 800))[0], [])
        self.assertEqual(self.check([[0], [799]], 799, 800, numbers_by_steps([[0], [799]], 799, 800))[0], [])
        self.assertEqual(len(self.check([[0], [799]], 798, 800, numbers_by_steps([[0], [799]], 798, 800))[0]), 1)

    def test_a_span_longer_than_the_rows_need(self):
        self.check([[0], [0]], 0, 4, [[0, 1, 1, 1], [0, 2, 2, 2]])

    def test_each_choice_tried_out(self):
        for rows in itertools.product(subsets(range(3)), repeat=3):
            for gap in (0, 1, 2):
                self.check(list(rows), gap, 3, numbers_by_trial(rows, gap, 3))
        lot = random.Random(22)
        for turn in range(60):
            length = lot.randint(1, 5)
            rows = [sorted(lot.sample(range(length), lot.randint(0, min(2, length)))) for row in range(4)]
            gap = lot.choice((0, 1, 2, 4, 800))
            self.check(rows, gap, length, numbers_by_trial(rows, gap, length))

    def test_rows_by_lot(self):
        lot = random.Random(41)
        for turn in range(400):
            length = lot.choice((1, 3, 8, 30))
            gap = lot.choice((0, 1, 2, 3, 7, 800))
            rows = [
                sorted(lot.sample(range(length), lot.randint(0, min(4, length)))) for row in range(lot.randint(1, 9))
            ]
            self.check(rows, gap, length, numbers_by_steps(rows, gap, length))

    def test_sixty_rows(self):
        lot = random.Random(43)
        for gap in (0, 1, 13, 100, 800):
            rows = [sorted(lot.sample(range(800), lot.randint(0, 6))) for row in range(60)]
            told = self.check(rows, gap, 800, numbers_by_steps(rows, gap, 800))
            self.assertNotEqual(told[0], [])
        every = [list(range(800)) for row in range(60)]
        for gap in (0, 7, 800):
            self.check(every, gap, 800, [[0] * 800] * 60)

    def test_sixty_rows_that_fall(self):
        rows = [[59 - k] for k in range(60)]
        told = self.check(rows, 800, 60, numbers_by_steps(rows, 800, 60))
        self.assertEqual(len(told[0]), 59)


class WhatHoldsThroughout(unittest.TestCase):
    def test_what_is_handed_in_stays_as_it_is(self):
        for rows in ([[3], [1], [4]], [[1], [], []], [[0, 1], [1, 2]], []):
            before = copy.deepcopy(rows)
            first = fewest_blots(rows, 2, 5)
            self.assertEqual(rows, before)
            self.assertEqual(fewest_blots(rows, 2, 5), first)

    def test_the_lists_told_are_the_callers_own_the_lists_within_too(self):
        for rows in ([[3], [1], [4]], [[], [], []], [[0, 1], [1, 2]], [[2]], []):
            before = copy.deepcopy(rows)
            told = fewest_blots(rows, 2, 5)
            kept = copy.deepcopy(told)
            for inner in told[2]:
                inner[0] = -9
                inner.append(77)
            for part in told:
                part.append(55)
            self.assertEqual(rows, before)
            self.assertEqual(fewest_blots(rows, 2, 5), kept)

    def test_no_list_told_is_another_one_of_them(self):
        row = [1]
        places, days, numbers = fewest_blots([row, row, []], 2, 3)
        lists = [places, days, numbers, row] + numbers
        self.assertEqual(len({id(one) for one in lists}), len(lists))

    def test_rows_changed_later_change_nothing_told_earlier(self):
        rows = [[3], [1], [4]]
        told = fewest_blots(rows, 2, 5)
        kept = copy.deepcopy(told)
        rows[0].clear()
        rows.pop()
        self.assertEqual(told, kept)
        self.assertEqual(fewest_blots([[3], [1], [4]], 2, 5), kept)


if __name__ == "__main__":
    unittest.main()
