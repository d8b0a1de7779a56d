"""Points 1 to 3, 13, 19 and 20: how many whole readings there are, and the order in which they stand."""

import copy
import itertools
import math
import random
import unittest

from inkdays.chain import earliest, latest, possible_days
from inkdays.counting import count_readings, count_through, nth_reading, place_of_reading
from inkdays.errors import NoSuchReading

HUGE = 10 ** 5000
ODD_DAYS = (-1, -2, -800, -HUGE, 799, 800, 801, HUGE)


def all_readings(rows, gap):
    """Every whole reading by point 13, each one tried out, in the order of point 20."""
    return sorted(
        list(days) for days in itertools.product(*rows)
        if all(0 <= later - sooner <= gap for sooner, later in zip(days, days[1:]))
    )


def subsets(days):
    return [list(some) for many in range(len(days) + 1) for some in itertools.combinations(days, many)]


def small_rows():
    """Rows and gaps small enough to try everything: all of them with three rows of four days, and others by lot."""
    for rows in itertools.product(subsets(range(4)), repeat=3):
        for gap in (0, 1, 3):
            yield [list(row) for row in rows], gap
    lot = random.Random(19)
    for turn in range(500):
        days = range(0, lot.choice((5, 9, 30)))
        rows = [sorted(lot.sample(days, lot.randint(1, 4))) for row in range(lot.randint(1, 6))]
        yield rows, lot.choice((0, 1, 2, 3, 5, 8, 800))


def counts_by_end(rows, gap):
    """For each day of the last row how many whole readings end with it, counted on from the first row."""
    counts = {day: 1 for day in rows[0]}
    for row in rows[1:]:
        counts = {day: sum(counts.get(sooner, 0) for sooner in range(day - gap, day + 1)) for day in row}
    return counts


def turned(rows):
    """Time turned round: each day counted from the end, and the rows from the last."""
    return [[799 - day for day in reversed(row)] for row in reversed(rows)]


def rows_by_lot(lot):
    return [sorted(lot.sample(range(800), lot.randint(200, 700))) for row in range(60)]


class Count(unittest.TestCase):
    def test_a_plain_case(self):
        rows = [[0, 5, 9], [3, 6], [1, 7, 20]]
        self.assertEqual(count_readings(rows, 3), 1)
        self.assertEqual(count_readings(rows, 4), 2)
        self.assertEqual(count_readings(rows, 0), 0)
        # 0 3 7, 0 3 20, 0 6 7, 0 6 20, 5 6 7 and 5 6 20.
        self.assertEqual(count_readings(rows, 800), 6)

    def test_the_gap_is_counted_in(self):
        self.assertEqual(count_readings([[10], [9, 10, 12, 13, 14]], 3), 3)
        self.assertEqual(count_readings([[10], [9, 10, 12, 13, 14]], 2), 2)
        self.assertEqual(count_readings([[0], [799]], 798), 0)
        self.assertEqual(count_readings([[0], [799]], 799), 1)

    def test_no_rows_have_the_empty_reading(self):
        for gap in (0, 1, 800):
            self.assertEqual(count_readings([], gap), 1)

    def test_one_row(self):
        for gap in (0, 1, 800):
            self.assertEqual(count_readings([[3, 9, 11]], gap), 3)
            self.assertEqual(count_readings([[799]], gap), 1)

    def test_empty_rows(self):
        for gap in (0, 1, 800):
            for rows in ([[]], [[], []], [[1], []], [[], [1]], [[1], [], [1]]):
                self.assertEqual(count_readings(rows, gap), 0)

    def test_a_gap_of_nought_leaves_the_days_that_all_rows_have(self):
        self.assertEqual(count_readings([[1, 2, 3, 8], [2, 3, 4, 8], [2, 3, 8, 9]], 0), 3)

    def test_each_reading_tried_out(self):
        for rows, gap in small_rows():
            self.assertEqual(count_readings(rows, gap), len(all_readings(rows, gap)), (rows, gap))

    def test_counts_far_beyond_any_machine_word(self):
        every = [list(range(800)) for row in range(60)]
        # Days that never go back are a choice of 60 out of 800 in which a day may stand again.
        self.assertEqual(count_readings(every, 800), math.comb(859, 60))
        self.assertEqual(count_readings(every, 799), math.comb(859, 60))
        self.assertGreater(math.comb(859, 60), 10 ** 90)
        self.assertEqual(count_readings(every, 798), math.comb(859, 60) - 59)
        self.assertEqual(count_readings(every, 0), 800)
        # No end of the span is near enough to be met, so each of the 59 steps is free.
        middle = [[100]] + [list(range(800)) for row in range(59)]
        self.assertEqual(count_readings(middle, 9), 10 ** 59)
        self.assertEqual(count_readings([[0, 1]] * 60, 1), 61)

    def test_sixty_rows_by_lot(self):
        lot = random.Random(23)
        for gap in (0, 1, 12, 60, 800):
            rows = rows_by_lot(lot)
            self.assertEqual(count_readings(rows, gap), sum(counts_by_end(rows, gap).values()))


class CountThrough(unittest.TestCase):
    def test_a_plain_case(self):
        rows = [[0, 5, 9], [3, 6], [1, 7, 20]]
        self.assertEqual([count_through(rows, 800, 0, day) for day in (0, 5, 9)], [4, 2, 0])
        self.assertEqual([count_through(rows, 800, 1, day) for day in (3, 6)], [2, 4])
        self.assertEqual([count_through(rows, 800, 2, day) for day in (1, 7, 20)], [0, 3, 3])

    def test_days_that_the_row_does_not_have(self):
        rows = [[0, 1, 3], [1, 2], [3]]
        for place in range(3):
            for day in ODD_DAYS:
                self.assertEqual(count_through(rows, 2, place, day), 0)
        # It would do as a day of the row, but is none.
        self.assertEqual(count_through([[0], [2]], 2, 0, 1), 0)
        self.assertEqual(count_through([[0], [0, 2], [2]], 2, 1, 1), 0)

    def test_empty_rows(self):
        self.assertEqual(count_through([[]], 5, 0, 1), 0)
        self.assertEqual(count_through([[1], []], 5, 0, 1), 0)
        self.assertEqual(count_through([[1], []], 5, 1, 1), 0)
        self.assertEqual(count_through([[], [1]], 5, 1, 1), 0)

    def test_each_reading_tried_out(self):
        for rows, gap in small_rows():
            readings = all_readings(rows, gap)
            for place in range(len(rows)):
                for day in set(rows[place]) | {-1, 2, 4}:
                    through = len([days for days in readings if days[place] == day])
                    self.assertEqual(count_through(rows, gap, place, day), through, (rows, gap, place, day))

    def test_sixty_rows(self):
        lot = random.Random(29)
        for gap in (3, 20):
            rows = rows_by_lot(lot)
            for place in (0, 1, 31, 58, 59):
                rows[place] = sorted(lot.sample(range(800), 9))
            whole = count_readings(rows, gap)
            for place in (0, 1, 31, 58, 59):
                up_to = counts_by_end(rows[:place + 1], gap)
                on_from = counts_by_end(turned(rows[place:]), gap)
                through = [count_through(rows, gap, place, day) for day in rows[place]]
                self.assertEqual(through, [up_to[day] * on_from[799 - day] for day in rows[place]])
                self.assertEqual(sum(through), whole)


class Nth(unittest.TestCase):
    def test_a_plain_case(self):
        rows = [[0, 5, 9], [3, 6], [1, 7, 20]]
        told = [nth_reading(rows, 800, k) for k in range(6)]
        self.assertEqual(told, [[0, 3, 7], [0, 3, 20], [0, 6, 7], [0, 6, 20], [5, 6, 7], [5, 6, 20]])
        self.assertEqual([nth_reading(rows, 4, k) for k in range(2)], [[0, 3, 7], [5, 6, 7]])

    def test_the_empty_reading_of_no_rows(self):
        for gap in (0, 800):
            self.assertEqual(nth_reading([], gap, 0), [])
            for k in (-1, 1, 2, HUGE, -HUGE):
                with self.assertRaises(NoSuchReading):
                    nth_reading([], gap, k)

    def test_a_k_without_a_reading(self):
        rows = [[0, 5, 9], [3, 6], [1, 7, 20]]
        for gap, count in ((800, 6), (4, 2), (3, 1), (0, 0)):
            for k in (-1, -2, -count, -HUGE, count, count + 1, HUGE):
                if not 0 <= k < count:
                    with self.assertRaises(NoSuchReading):
                        nth_reading(rows, gap, k)

    def test_rows_without_a_reading(self):
        for rows in ([[]], [[], [1]], [[1], []], [[5], [4]], [[1], [9]]):
            for k in (-1, 0, 1):
                with self.assertRaises(NoSuchReading):
                    nth_reading(rows, 3, k)

    def test_each_k_and_those_just_outside(self):
        for rows, gap in small_rows():
            readings = all_readings(rows, gap)
            self.assertEqual([nth_reading(rows, gap, k) for k in range(len(readings))], readings, (rows, gap))
            for k in (-1, len(readings)):
                with self.assertRaises(NoSuchReading):
                    nth_reading(rows, gap, k)

    def test_the_first_and_the_last_of_sixty_long_rows(self):
        every = [list(range(800)) for row in range(60)]
        whole = math.comb(859, 60)
        self.assertEqual(nth_reading(every, 800, 0), [0] * 60)
        self.assertEqual(nth_reading(every, 800, 1), [0] * 59 + [1])
        self.assertEqual(nth_reading(every, 800, 800), [0] * 58 + [1, 1])
        self.assertEqual(nth_reading(every, 800, whole - 1), [799] * 60)
        self.assertEqual(nth_reading(every, 800, whole - 2), [798] + [799] * 59)
        for k in (-1, whole, whole + 1):
            with self.assertRaises(NoSuchReading):
                nth_reading(every, 800, k)

    def test_figures_of_k_in_the_steps(self):
        # With ten free steps at each place the steps are the figures of k.
        rows = [[100]] + [list(range(800)) for row in range(59)]
        k = 31415926535897932384626433832795028841971693993751058209749
        told = nth_reading(rows, 9, k)
        self.assertEqual("".join(str(later - sooner) for sooner, later in zip(told, told[1:])), str(k))
        self.assertEqual(place_of_reading(rows, 9, told), k)


class PlaceOf(unittest.TestCase):
    def assert_refused(self, rows, gap, days):
        with self.assertRaises(NoSuchReading):
            place_of_reading(rows, gap, days)

    def test_a_plain_case(self):
        rows = [[0, 5, 9], [3, 6], [1, 7, 20]]
        self.assertEqual(place_of_reading(rows, 800, [0, 3, 7]), 0)
        self.assertEqual(place_of_reading(rows, 800, [0, 6, 20]), 3)
        self.assertEqual(place_of_reading(rows, 800, [5, 6, 20]), 5)
        self.assertEqual(place_of_reading(rows, 4, [5, 6, 7]), 1)
        self.assertEqual(place_of_reading([], 4, []), 0)
        self.assertEqual(place_of_reading([[7, 9]], 0, [9]), 1)

    def test_the_wrong_length(self):
        rows = [[0, 5, 9], [3, 6], [1, 7, 20]]
        for days in ([], [0], [0, 3], [0, 3, 7, 7], [0, 3, 7] * 33, [0] * 100):
            self.assert_refused(rows, 4, days)
        self.assert_refused([], 4, [0])
        self.assert_refused([], 4, [0] * 100)
        self.assert_refused([[]], 4, [])
        self.assert_refused([[0]], 4, [])
        self.assert_refused([[0]], 4, [0, 0])

    def test_a_day_that_its_row_does_not_have(self):
        rows = [[0, 5, 9], [3, 6], [1, 7, 20]]
        for days in ([1, 3, 7], [0, 4, 7], [0, 3, 6]):
            self.assert_refused(rows, 4, days)
        for day in ODD_DAYS:
            for place in range(3):
                days = [0, 3, 7]
                days[place] = day
                self.assert_refused(rows, 4, days)
        self.assert_refused([[]], 4, [0])
        self.assert_refused([[1], []], 4, [1, 1])

    def test_days_that_go_back_or_too_far(self):
        rows = [[0, 5, 9], [3, 6], [1, 7, 20]]
        for days in ([5, 3, 7], [9, 6, 7], [0, 6, 7], [5, 6, 1], [5, 6, 20], [0, 3, 1]):
            self.assert_refused(rows, 4, days)
        self.assert_refused(rows, 3, [0, 3, 7])
        self.assertEqual(place_of_reading([[0], [3]], 3, [0, 3]), 0)
        self.assert_refused([[0], [3]], 2, [0, 3])
        self.assert_refused([[1], [0]], 800, [1, 0])

    def test_each_list_tried_out(self):
        for rows, gap in itertools.islice(small_rows(), 0, None, 7):
            readings = all_readings(rows, gap)
            for place, days in enumerate(readings):
                self.assertEqual(place_of_reading(rows, gap, days), place, (rows, gap, days))
            for days in itertools.product(range(5), repeat=min(3, len(rows))):
                if list(days) not in readings:
                    self.assert_refused(rows, gap, list(days))

    def test_there_and_back_on_sixty_rows(self):
        lot = random.Random(31)
        for gap in (12, 60, 800):
            rows = rows_by_lot(lot)
            whole = count_readings(rows, gap)
            self.assertGreater(whole, 10 ** 30)
            asked = sorted([0, 1, whole - 1] + [lot.randrange(whole) for turn in range(8)])
            told = [nth_reading(rows, gap, k) for k in asked]
            self.assertEqual([place_of_reading(rows, gap, days) for days in told], asked)
            self.assertEqual(told, sorted(told))
            self.assertEqual(place_of_reading(rows, gap, earliest(rows, gap)), 0)
            self.assertEqual(place_of_reading(rows, gap, latest(rows, gap)), whole - 1)

    def test_the_readings_ahead_are_those_through_earlier_days(self):
        lot = random.Random(37)
        rows = [sorted(lot.sample(range(800), 100)) for row in range(30)]
        for gap in (90, 800):
            self.assertGreater(count_readings(rows, gap), 10 ** 9)
            days = nth_reading(rows, gap, count_readings(rows, gap) // 3)
            ahead = sum(count_through(rows, gap, 0, day) for day in rows[0] if day < days[0])
            for place in range(1, 30):
                fixed = [[day] for day in days[:place]] + rows[place:]
                ahead += sum(count_through(fixed, gap, place, day) for day in possible_days(fixed, gap)[place]
                             if day < days[place])
            self.assertEqual(place_of_reading(rows, gap, days), ahead)


class WhatHoldsThroughout(unittest.TestCase):
    asked = (
        lambda rows: count_readings(rows, 2),
        lambda rows: count_through(rows, 2, 0, 1),
        lambda rows: nth_reading(rows, 2, 0),
        lambda rows: nth_reading(rows, 2, 1),
        lambda rows: place_of_reading(rows, 2, [2, 2, 3]),
    )

    def rows(self):
        return [[1, 2, 9], [2, 3], [3, 30]]

    def test_what_is_handed_in_stays_as_it_is(self):
        for ask in self.asked:
            rows = self.rows()
            told = ask(rows)
            self.assertEqual(rows, self.rows())
            self.assertEqual(ask(rows), told)
        for make in (self.rows, lambda: [[1], []], lambda: []):
            rows = make()
            for k in (-1, 99):
                with self.assertRaises(NoSuchReading):
                    nth_reading(rows, 2, k)
            days = [1, 2, 4]
            with self.assertRaises(NoSuchReading):
                place_of_reading(rows, 2, days)
            self.assertEqual(days, [1, 2, 4])
            self.assertEqual(rows, make())
        days = [2, 2, 3]
        place_of_reading(self.rows(), 2, days)
        self.assertEqual(days, [2, 2, 3])

    def test_the_list_told_is_the_callers_own(self):
        for rows, k in ((self.rows(), 1), ([[4]], 0), ([], 0)):
            before = copy.deepcopy(rows)
            told = nth_reading(rows, 2, k)
            kept = list(told)
            told.append(77)
            told[0] = -9
            self.assertEqual(rows, before)
            self.assertEqual(nth_reading(rows, 2, k), kept)

    def test_one_list_standing_for_several_rows(self):
        row = [1, 2, 3]
        rows = [row, row, row]
        readings = all_readings([[1, 2, 3]] * 3, 1)
        self.assertEqual(count_readings(rows, 1), len(readings))
        self.assertEqual(count_through(rows, 1, 1, 2), len([days for days in readings if days[1] == 2]))
        self.assertEqual([nth_reading(rows, 1, k) for k in range(len(readings))], readings)
        self.assertEqual([place_of_reading(rows, 1, days) for days in readings], list(range(len(readings))))
        self.assertEqual(row, [1, 2, 3])


if __name__ == "__main__":
    unittest.main()
