"""Points 1 to 3, 13 to 16 and 18: the days of rows that are read together."""

import copy
import itertools
import random
import unittest

from inkdays.chain import back_days, earliest, forth_days, latest, possible_days, witness

HUGE = 10 ** 5000
ODD_DAYS = (-1, -2, -800, -HUGE, 4, 5, 799, 800, 801, HUGE)


def all_readings(rows, gap):
    """Every whole reading by point 13, each one tried out."""
    return [
        list(days) for days in itertools.product(*rows)
        if all(0 <= later - sooner <= gap for sooner, later in zip(days, days[1:]))
    ]


def days_at(readings, place):
    return sorted({days[place] for days in readings})


def subsets(days):
    return [list(some) for many in range(len(days) + 1) for some in itertools.combinations(days, many)]


def small_rows():
    """Rows and gaps small enough to try everything: all of them with three rows of four days, and others by lot."""
    for rows in itertools.product(subsets(range(4)), repeat=3):
        for gap in (0, 1, 3):
            yield [list(row) for row in rows], gap
    lot = random.Random(7)
    for turn in range(600):
        days = range(0, lot.choice((5, 9, 30)))
        rows = [sorted(lot.sample(days, lot.randint(1, 4))) for row in range(lot.randint(1, 6))]
        yield rows, lot.choice((0, 1, 2, 3, 5, 8, 800))


def is_whole(days, rows, gap):
    return len(days) == len(rows) and all(day in row for day, row in zip(days, rows)) and all(
        0 <= later - sooner <= gap for sooner, later in zip(days, days[1:])
    )


def led_up_to(rows, gap):
    """forth_days by point 14, looked for in another way."""
    told = []
    for k, row in enumerate(rows):
        told.append([
            day for day in row if k == 0 or any(sooner in told[-1] for sooner in range(day - gap, day + 1))
        ])
    return told


class ForthAndBack(unittest.TestCase):
    def test_a_plain_case(self):
        rows = [[0, 5, 9], [3, 6], [1, 7, 20]]
        self.assertEqual(forth_days(rows, 4), [[0, 5, 9], [3, 6], [7]])
        self.assertEqual(back_days(rows, 4), [[0, 5], [3, 6], [1, 7, 20]])
        self.assertEqual(forth_days(rows, 2), [[0, 5, 9], [6], [7]])
        self.assertEqual(back_days(rows, 2), [[5], [6], [1, 7, 20]])

    def test_the_gap_is_counted_in(self):
        self.assertEqual(forth_days([[10], [9, 10, 12, 13, 14]], 3), [[10], [10, 12, 13]])
        self.assertEqual(back_days([[6, 7, 8, 10, 11], [10]], 3), [[7, 8, 10], [10]])

    def test_a_gap_of_nought(self):
        rows = [[1, 2, 3], [2, 3, 4], [3, 4, 5]]
        self.assertEqual(forth_days(rows, 0), [[1, 2, 3], [2, 3], [3]])
        self.assertEqual(back_days(rows, 0), [[3], [3, 4], [3, 4, 5]])

    def test_the_widest_gap(self):
        rows = [[0, 799], [0, 400], [0, 799]]
        self.assertEqual(forth_days(rows, 800), [[0, 799], [0, 400], [0, 799]])
        self.assertEqual(back_days(rows, 800), [[0], [0, 400], [0, 799]])
        self.assertEqual(forth_days([[0], [799]], 800), [[0], [799]])
        self.assertEqual(forth_days([[0], [799]], 799), [[0], [799]])
        self.assertEqual(forth_days([[0], [799]], 798), [[0], []])
        self.assertEqual(back_days([[0], [799]], 798), [[], [799]])

    def test_no_rows_and_one_row(self):
        for gap in (0, 1, 800):
            self.assertEqual(forth_days([], gap), [])
            self.assertEqual(back_days([], gap), [])
            self.assertEqual(forth_days([[]], gap), [[]])
            self.assertEqual(back_days([[]], gap), [[]])
            self.assertEqual(forth_days([[3, 9]], gap), [[3, 9]])
            self.assertEqual(back_days([[3, 9]], gap), [[3, 9]])

    def test_an_empty_row_cuts(self):
        rows = [[1, 2], [], [1, 2]]
        self.assertEqual(forth_days(rows, 5), [[1, 2], [], []])
        self.assertEqual(back_days(rows, 5), [[], [], [1, 2]])
        self.assertEqual(forth_days([[], [1]], 5), [[], []])
        self.assertEqual(back_days([[], [1]], 5), [[], [1]])
        self.assertEqual(forth_days([[1], []], 5), [[1], []])
        self.assertEqual(back_days([[1], []], 5), [[], []])
        self.assertEqual(forth_days([[], []], 0), [[], []])
        self.assertEqual(back_days([[], []], 0), [[], []])

    def test_each_reading_tried_out(self):
        for rows, gap in small_rows():
            many = len(rows)
            self.assertEqual(
                forth_days(rows, gap), [days_at(all_readings(rows[:k + 1], gap), k) for k in range(many)], (rows, gap)
            )
            self.assertEqual(
                back_days(rows, gap), [days_at(all_readings(rows[k:], gap), 0) for k in range(many)], (rows, gap)
            )


class Possible(unittest.TestCase):
    def test_a_plain_case(self):
        self.assertEqual(possible_days([[0, 5, 9], [3, 6], [1, 7, 20]], 3), [[5], [6], [7]])
        self.assertEqual(possible_days([[0, 5, 9], [3, 6], [1, 7, 20]], 4), [[0, 5], [3, 6], [7]])
        self.assertEqual(possible_days([[0, 5, 9], [3, 6], [3, 7, 20]], 4), [[0, 5], [3, 6], [3, 7]])

    def test_no_whole_reading_leaves_none_to_any_row(self):
        for rows in (
            [[]], [[], []], [[1, 2], []], [[], [1, 2]], [[1], [2], []], [[5], [4]], [[1], [2], [9]], [[9], [1], [2]],
            [[1, 2], [], [1, 2]], [[1], [9], [9], [1]],
        ):
            self.assertEqual(possible_days(rows, 3), [[] for row in rows])
            self.assertIsNone(earliest(rows, 3))
            self.assertIsNone(latest(rows, 3))

    def test_no_rows_have_the_empty_reading(self):
        for gap in (0, 1, 800):
            self.assertEqual(possible_days([], gap), [])
            self.assertEqual(earliest([], gap), [])
            self.assertEqual(latest([], gap), [])

    def test_one_row(self):
        self.assertEqual(possible_days([[3, 9]], 0), [[3, 9]])
        self.assertEqual(earliest([[3, 9]], 0), [3])
        self.assertEqual(latest([[3, 9]], 0), [9])

    def test_each_reading_tried_out(self):
        for rows, gap in small_rows():
            readings = all_readings(rows, gap)
            possible = [days_at(readings, k) for k in range(len(rows))]
            self.assertEqual(possible_days(rows, gap), possible, (rows, gap))
            if readings:
                self.assertEqual(earliest(rows, gap), [days[0] for days in possible], (rows, gap))
                self.assertEqual(latest(rows, gap), [days[-1] for days in possible], (rows, gap))
                self.assertIn(earliest(rows, gap), readings)
                self.assertIn(latest(rows, gap), readings)
            else:
                self.assertIsNone(earliest(rows, gap))
                self.assertIsNone(latest(rows, gap))


class Witness(unittest.TestCase):
    def test_a_plain_case(self):
        rows = [[0, 5, 9], [3, 6], [1, 7, 20]]
        self.assertEqual(witness(rows, 3, 0, 5), [5, 6, 7])
        self.assertIsNone(witness(rows, 3, 0, 0))
        self.assertIsNone(witness(rows, 3, 1, 3))
        self.assertIsNone(witness(rows, 3, 2, 20))
        self.assertEqual(witness(rows, 4, 0, 0), [0, 3, 7])

    def test_the_day_stands_where_it_was_asked_for(self):
        rows = [[0, 1, 2, 3]] * 3
        for place in range(3):
            for day in range(4):
                told = witness(rows, 3, place, day)
                self.assertEqual(told[place], day)
                self.assertTrue(is_whole(told, rows, 3))

    def test_days_that_the_row_does_not_have(self):
        rows = [[0, 1, 3], [1, 2], [3]]
        for place in range(3):
            for day in ODD_DAYS:
                self.assertIsNone(witness(rows, 2, place, day))
        # It would do as a day of the row, but is none.
        self.assertIsNone(witness([[0], [2]], 2, 0, 1))
        self.assertIsNone(witness([[0], [0, 2], [2]], 2, 1, 1))
        self.assertIsNone(witness([[]], 2, 0, 1))

    def test_where_another_row_is_empty(self):
        self.assertIsNone(witness([[1], []], 5, 0, 1))
        self.assertIsNone(witness([[], [1]], 5, 1, 1))
        self.assertIsNone(witness([[1], [1], []], 5, 0, 1))

    def test_each_reading_tried_out(self):
        for rows, gap in small_rows():
            readings = all_readings(rows, gap)
            for place in range(len(rows)):
                possible = days_at(readings, place)
                for day in set(rows[place]) | {-1, 2, 4}:
                    told = witness(rows, gap, place, day)
                    if day in possible:
                        self.assertEqual(told[place], day)
                        self.assertTrue(is_whole(told, rows, gap), (rows, gap, told))
                    else:
                        self.assertIsNone(told, (rows, gap, place, day))


class SixtyRows(unittest.TestCase):
    def test_every_day_in_each(self):
        every = list(range(800))
        rows = [list(every) for row in range(60)]
        for gap in (0, 1, 13, 799, 800):
            for ask in (forth_days, back_days, possible_days):
                self.assertEqual(ask(rows, gap), rows)
            self.assertEqual(earliest(rows, gap), [0] * 60)
            self.assertEqual(latest(rows, gap), [799] * 60)
            for place, day in ((0, 0), (0, 799), (30, 400), (59, 0), (59, 799)):
                told = witness(rows, gap, place, day)
                self.assertEqual(told[place], day)
                self.assertTrue(is_whole(told, rows, gap))
            for day in (-1, 800, HUGE, -HUGE):
                self.assertIsNone(witness(rows, gap, 30, day))

    def test_tied_at_both_ends(self):
        rows = [[0]] + [list(range(800)) for row in range(58)] + [[590]]
        tied = [[10 * k] for k in range(60)]
        self.assertEqual(possible_days(rows, 10), tied)
        self.assertEqual(earliest(rows, 10), [10 * k for k in range(60)])
        self.assertEqual(latest(rows, 10), [10 * k for k in range(60)])
        self.assertEqual(witness(rows, 10, 17, 170), [10 * k for k in range(60)])
        self.assertIsNone(witness(rows, 10, 17, 171))
        self.assertIsNone(witness(rows, 9, 17, 170))
        self.assertEqual(possible_days(rows, 9), [[]] * 60)
        self.assertEqual(forth_days(rows, 9)[58], list(range(0, 9 * 58 + 1)))
        self.assertEqual(forth_days(rows, 9)[59], [])

    def test_rows_by_lot(self):
        lot = random.Random(11)
        for turn in range(12):
            gap = lot.choice((1, 5, 20, 60))
            rows = [sorted(lot.sample(range(800), lot.randint(20, 400))) for row in range(60)]
            forth = led_up_to(rows, gap)
            # Time turned round: each day counted from the end, and the rows from the last.
            turned = [[799 - day for day in reversed(row)] for row in reversed(rows)]
            back = [[799 - day for day in reversed(row)] for row in reversed(led_up_to(turned, gap))]
            possible = [[day for day in row if day in other] for row, other in zip(forth, back)]
            self.assertEqual(forth_days(rows, gap), forth)
            self.assertEqual(back_days(rows, gap), back)
            self.assertEqual(possible_days(rows, gap), possible)
            for place in range(0, 60, 7):
                day = rows[place][lot.randrange(len(rows[place]))]
                told = witness(rows, gap, place, day)
                self.assertEqual(told is not None, day in possible[place])
                self.assertTrue(told is None or (told[place] == day and is_whole(told, rows, gap)))


ASKED = (
    lambda rows, gap: forth_days(rows, gap),
    lambda rows, gap: back_days(rows, gap),
    lambda rows, gap: possible_days(rows, gap),
    lambda rows, gap: witness(rows, gap, 0, 1),
    lambda rows, gap: witness(rows, gap, 1, 77),
    lambda rows, gap: earliest(rows, gap),
    lambda rows, gap: latest(rows, gap),
)


class WhatHoldsThroughout(unittest.TestCase):
    def rows(self):
        return [[1, 2, 9], [2, 3], [3, 30]]

    def test_what_is_handed_in_stays_as_it_is(self):
        for make in (self.rows, lambda: [[1, 2], [], [3]], lambda: [[5], [4]]):
            for ask in ASKED:
                rows = make()
                ask(rows, 2)
                self.assertEqual(rows, make())

    def test_the_lists_told_are_the_callers_own_the_lists_within_too(self):
        for ask in ASKED:
            for rows in (self.rows(), [[1]], [[1], [1]]):
                if len(rows) == 1 and ask == ASKED[4]:
                    continue
                before = copy.deepcopy(rows)
                told = ask(rows, 2)
                kept = copy.deepcopy(told)
                for inner in told or []:
                    if isinstance(inner, list):
                        inner.append(77)
                        inner[0] = -9
                if told is not None:
                    told.append([55])
                    told.pop(0)
                self.assertEqual(rows, before)
                self.assertEqual(ask(rows, 2), kept)

    def test_one_list_standing_for_several_rows(self):
        row = [1, 2]
        for ask in (forth_days, back_days, possible_days):
            told = ask([row, row, row], 1)
            self.assertEqual(told, [[1, 2]] * 3)
            told[0].append(7)
            self.assertEqual(told[1:], [[1, 2]] * 2)
            self.assertEqual(row, [1, 2])
            emptied = ask([[], [], []], 1)
            emptied[1].append(7)
            self.assertEqual(emptied, [[], [7], []])

    def test_rows_changed_later_change_nothing_told_earlier(self):
        for ask in ASKED:
            rows = self.rows()
            told = ask(rows, 2)
            kept = copy.deepcopy(told)
            rows[0].clear()
            rows[1].append(50)
            rows.pop()
            self.assertEqual(told, kept)
            self.assertEqual(ask(self.rows(), 2), kept)


if __name__ == "__main__":
    unittest.main()
