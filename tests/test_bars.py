"""Points 1 to 3, 13, 17 and 21: what bars a day, and the shortest stretch that can't be read together."""

import copy
import itertools
import random
import unittest

from inkdays.bars import barred_by, clash
from inkdays.chain import possible_days, witness

HUGE = 10 ** 5000


def all_readings(rows, gap):
    """Every whole reading by point 13, each one tried out."""
    return [
        list(days) for days in itertools.product(*rows)
        if all(0 <= later - sooner <= gap for sooner, later in zip(days, days[1:]))
    ]


def subsets(days):
    return [list(some) for many in range(len(days) + 1) for some in itertools.combinations(days, many)]


def small_rows():
    for rows in itertools.product(subsets(range(3)), repeat=4):
        for gap in (0, 1):
            yield [list(row) for row in rows], gap
    lot = random.Random(5)
    for turn in range(800):
        days = range(0, lot.choice((4, 6, 9, 30)))
        rows = [sorted(lot.sample(days, lot.randint(1, 3))) for row in range(lot.randint(1, 7))]
        yield rows, lot.choice((0, 1, 2, 3, 5, 8, 800))


def stretches(rows, gap):
    """Each stretch, as first place, last place and its whole readings."""
    return [
        (first, last, all_readings(rows[first:last + 1], gap))
        for first in range(len(rows)) for last in range(first, len(rows))
    ]


def bar_by_trial(told_stretches, place, day):
    """barred_by by point 17; of two as short the one that ends at the place, which is the one that begins first."""
    bars = [
        (last - first, first, last) for first, last, readings in told_stretches
        if place in (first, last) and not any(days[place - first] == day for days in readings)
    ]
    return min(bars)[1:] if bars else None


def clash_by_trial(told_stretches):
    clashes = [(last - first, first, last) for first, last, readings in told_stretches if not readings]
    return min(clashes)[1:] if clashes else None


class BarredBy(unittest.TestCase):
    def test_none_where_the_day_is_possible(self):
        rows = [[0, 5, 9], [3, 6], [1, 7, 20]]
        for place, day in ((0, 5), (1, 6), (2, 7)):
            self.assertIsNone(barred_by(rows, 4, place, day))
        self.assertIsNone(barred_by([[3]], 0, 0, 3))

    def test_a_day_that_is_none_of_the_rows(self):
        rows = [[0, 5, 9], [], [1, 7, 20]]
        for day in (-1, -HUGE, 3, 8, 799, 800, HUGE):
            for place in range(3):
                self.assertEqual(barred_by(rows, 4, place, day), (place, place))
        self.assertEqual(barred_by([[]], 4, 0, 0), (0, 0))
        # It would do as a day of the row, but is none.
        self.assertEqual(barred_by([[0], [2]], 2, 0, 1), (0, 0))

    def test_barred_from_ahead(self):
        self.assertEqual(barred_by([[0], [3, 6]], 4, 1, 6), (0, 1))
        self.assertEqual(barred_by([[5], [3, 6]], 4, 1, 3), (0, 1))
        self.assertEqual(barred_by([[0], [2, 3], [6]], 3, 2, 6), None)
        self.assertEqual(barred_by([[0], [2, 4], [7]], 3, 2, 7), (0, 2))
        self.assertEqual(barred_by([[0], [0], [2, 4], [7]], 3, 3, 7), (1, 3))

    def test_barred_from_behind(self):
        self.assertEqual(barred_by([[0, 5], [6]], 4, 0, 0), (0, 1))
        self.assertEqual(barred_by([[0, 7], [6]], 4, 0, 7), (0, 1))
        self.assertEqual(barred_by([[0], [2, 4], [7]], 3, 0, 0), (0, 2))
        self.assertEqual(barred_by([[0], [2, 4], [7], [7]], 3, 0, 0), (0, 2))

    def test_the_shorter_side_is_told(self):
        rows = [[0], [4], [4], [9]]
        self.assertEqual(barred_by(rows, 3, 1, 4), (0, 1))
        self.assertEqual(barred_by(rows, 3, 2, 4), (2, 3))

    def test_of_two_as_short_the_one_that_ends_at_the_place(self):
        self.assertEqual(barred_by([[0], [4], [9]], 3, 1, 4), (0, 1))
        self.assertEqual(barred_by([[0], [4], [4], [4], [9]], 3, 2, 4), (0, 2))
        self.assertEqual(barred_by([[], [4], []], 3, 1, 4), (0, 1))

    def test_a_clash_elsewhere_bars_too(self):
        rows = [[5], [5], [5], [], [5]]
        self.assertEqual([barred_by(rows, 0, place, 5) for place in range(5)], [(0, 3), (1, 3), (2, 3), (3, 3), (3, 4)])

    def test_the_gap_is_counted_in(self):
        self.assertIsNone(barred_by([[0], [800 - 1]], 799, 0, 0))
        self.assertEqual(barred_by([[0], [800 - 1]], 798, 0, 0), (0, 1))
        self.assertIsNone(barred_by([[0], [799]], 800, 1, 799))
        self.assertEqual(barred_by([[0], [1]], 0, 1, 1), (0, 1))
        self.assertIsNone(barred_by([[1], [1]], 0, 1, 1))

    def test_each_stretch_tried_out(self):
        for rows, gap in small_rows():
            tried = stretches(rows, gap)
            for place, row in enumerate(rows):
                for day in set(row) | {-1, 1, 3}:
                    expected = bar_by_trial(tried, place, day)
                    told = barred_by(rows, gap, place, day)
                    self.assertEqual(told, expected, (rows, gap, place, day))
                    self.assertEqual(told is None, witness(rows, gap, place, day) is not None)

    def test_it_is_a_tuple(self):
        self.assertIsInstance(barred_by([[0], [9]], 3, 0, 0), tuple)
        self.assertIsInstance(barred_by([[0], [9]], 3, 1, 9), tuple)
        self.assertIsInstance(barred_by([[0], [9]], 3, 1, 5), tuple)


class Clash(unittest.TestCase):
    def test_none_where_there_is_a_whole_reading(self):
        for rows in ([], [[3]], [[0, 5, 9], [3, 6], [1, 7, 20]], [[1], [1], [1]]):
            self.assertIsNone(clash(rows, 4))

    def test_no_rows(self):
        for gap in (0, 1, 800):
            self.assertIsNone(clash([], gap))

    def test_an_empty_row_is_one_by_itself(self):
        self.assertEqual(clash([[]], 4), (0, 0))
        self.assertEqual(clash([[1], [], [1]], 4), (1, 1))
        self.assertEqual(clash([[1], [9], [9], []], 4), (3, 3))
        self.assertEqual(clash([[1], [], [1], []], 4), (1, 1))

    def test_two_rows_apart(self):
        self.assertEqual(clash([[5], [4]], 800), (0, 1))
        self.assertEqual(clash([[0], [5]], 4), (0, 1))
        self.assertEqual(clash([[0], [5]], 5), None)
        self.assertEqual(clash([[3], [3], [0]], 4), (1, 2))

    def test_a_longer_one(self):
        self.assertEqual(clash([[0], [2, 4], [7]], 3), (0, 2))
        self.assertEqual(clash([[0], [0], [2, 4], [7], [7]], 3), (1, 3))

    def test_the_shortest_is_told_though_it_begins_later(self):
        self.assertEqual(clash([[0], [2, 4], [7], [7], [1]], 3), (3, 4))
        self.assertEqual(clash([[0], [2, 4], [7], [7], []], 3), (4, 4))

    def test_of_several_as_short_the_one_that_begins_first(self):
        self.assertEqual(clash([[0], [9], [0], [9]], 3), (0, 1))
        self.assertEqual(clash([[5], [5], [1], [1], [9]], 3), (1, 2))
        self.assertEqual(clash([[0], [2, 4], [7], [9, 11], [14]], 3), (0, 2))

    def test_a_gap_of_nought_and_the_widest(self):
        self.assertEqual(clash([[1, 2], [2, 3], [3, 4]], 0), (0, 2))
        self.assertEqual(clash([[0], [1]], 0), (0, 1))
        self.assertIsNone(clash([[0], [799]], 800))
        self.assertEqual(clash([[1], [0]], 800), (0, 1))

    def test_each_stretch_tried_out(self):
        for rows, gap in small_rows():
            self.assertEqual(clash(rows, gap), clash_by_trial(stretches(rows, gap)), (rows, gap))

    def test_it_is_a_tuple(self):
        self.assertIsInstance(clash([[5], [4]], 3), tuple)


class SixtyRows(unittest.TestCase):
    def test_tied_at_both_ends(self):
        rows = [[0]] + [list(range(800)) for row in range(58)] + [[590]]
        self.assertIsNone(clash(rows, 10))
        self.assertEqual(clash(rows, 9), (0, 59))
        self.assertIsNone(barred_by(rows, 10, 17, 170))
        self.assertEqual(barred_by(rows, 10, 17, 171), (0, 17))
        self.assertEqual(barred_by(rows, 10, 17, 169), (17, 59))
        self.assertEqual(barred_by(rows, 10, 17, 800), (17, 17))
        self.assertEqual(barred_by(rows, 9, 0, 0), (0, 59))
        self.assertEqual(barred_by(rows, 9, 59, 590), (0, 59))

    def test_a_clash_at_the_end(self):
        rows = [list(range(800)) for row in range(58)] + [[700], [3]]
        self.assertEqual(clash(rows, 5), (58, 59))
        self.assertEqual(barred_by(rows, 5, 0, 0), (0, 58))
        self.assertEqual(barred_by(rows, 5, 57, 700), (57, 59))
        self.assertEqual(clash(rows[:59] + [[]], 5), (59, 59))

    def test_every_day_in_each(self):
        rows = [list(range(800)) for row in range(60)]
        for gap in (0, 800):
            self.assertIsNone(clash(rows, gap))
            for place in (0, 30, 59):
                self.assertIsNone(barred_by(rows, gap, place, 799))
                for day in (-1, 800, HUGE, -HUGE):
                    self.assertEqual(barred_by(rows, gap, place, day), (place, place))

    def test_rows_by_lot(self):
        lot = random.Random(3)
        for turn in range(40):
            gap = lot.choice((3, 10, 30))
            rows = [sorted(lot.sample(range(800), lot.choice((40, 100, 300)))) for row in range(60)]
            readable = {
                (first, last): [] not in possible_days(rows[first:last + 1], gap)
                for first in range(60) for last in range(first, min(60, first + 12))
            }
            clashes = sorted((last - first, first, last) for (first, last), can in readable.items() if not can)
            if clashes:
                self.assertEqual(clash(rows, gap), clashes[0][1:])
            place = lot.randrange(60)
            for day in rows[place][::20]:
                told = barred_by(rows, gap, place, day)
                if told is None:
                    self.assertIn(day, possible_days(rows, gap)[place])
                else:
                    first, last = told
                    self.assertIn(place, told)
                    self.assertIsNone(witness(rows[first:last + 1], gap, place - first, day))
                    width = last - first
                    for start, end in ((max(0, place - width + 1), place), (place, min(59, place + width - 1))):
                        if width > 0:
                            self.assertIsNotNone(witness(rows[start:end + 1], gap, place - start, day))


class WhatHoldsThroughout(unittest.TestCase):
    def test_what_is_handed_in_stays_as_it_is_and_asking_changes_nothing(self):
        for rows in ([[1, 2, 9], [2, 3], [3, 30]], [[1, 2], [], [3]], [[5], [4]], [[]]):
            before = copy.deepcopy(rows)
            told = [clash(rows, 2), barred_by(rows, 2, 0, 1), barred_by(rows, 2, 0, 9), barred_by(rows, 2, 0, -4)]
            self.assertEqual(rows, before)
            again = [clash(rows, 2), barred_by(rows, 2, 0, 1), barred_by(rows, 2, 0, 9), barred_by(rows, 2, 0, -4)]
            self.assertEqual(again, told)

    def test_rows_changed_later_are_read_anew(self):
        rows = [[1], [9]]
        self.assertEqual(clash(rows, 2), (0, 1))
        self.assertEqual(barred_by(rows, 2, 0, 1), (0, 1))
        rows[1][0] = 3
        self.assertIsNone(clash(rows, 2))
        self.assertIsNone(barred_by(rows, 2, 0, 1))
        self.assertEqual(clash([[1], [9]], 2), (0, 1))


if __name__ == "__main__":
    unittest.main()
