"""Points 1 to 7: the calendar, its numbers and weekdays, and spans."""

import datetime
import unittest

from inkdays.days import (
    MONTHS, WEEKDAYS, Span, date_of, is_leap, month_length, number_of, weekday_of,
)
from inkdays.errors import BadLength, InkError, NoSuchDay

LAST = 3652058
COMMON = (31, 28, 31, 30, 31, 30, 31, 31, 30, 31, 30, 31)
LEAP = (31, 29, 31, 30, 31, 30, 31, 31, 30, 31, 30, 31)
# Too long for Python to write out in figures.
HUGE = 10 ** 5000

DATES_THAT_ARE_NOT = (
    (0, 1, 1), (-1, 1, 1), (-4, 2, 29), (10000, 1, 1), (10001, 6, 15), (HUGE, 1, 1), (-HUGE, 1, 1),
    (1900, 0, 1), (1900, -1, 1), (1900, 13, 1), (1900, 14, 1), (1900, HUGE, 1), (1900, -HUGE, 1),
    (1900, 1, 0), (1900, 1, -1), (1900, 1, 32), (1900, 1, HUGE), (1900, 1, -HUGE),
    (1900, 2, 29), (1904, 2, 30), (2000, 2, 30), (1901, 2, 29), (1900, 4, 31), (1900, 12, 32),
    (9999, 12, 32), (1, 1, 0), (10000, 13, 32), (0, 0, 0),
)
NUMBERS_THAT_ARE_NOT = (-1, -2, -7, -LAST, -HUGE, LAST + 1, LAST + 2, LAST + 365, 2 * LAST, HUGE)


class Names(unittest.TestCase):
    def test_months_and_weekdays_as_the_interface_tells_them(self):
        self.assertEqual(MONTHS, (
            "january", "february", "march", "april", "may", "june", "july",
            "august", "september", "october", "november", "december",
        ))
        self.assertEqual(WEEKDAYS, (
            "monday", "tuesday", "wednesday", "thursday", "friday", "saturday", "sunday",
        ))


class YearsAndMonths(unittest.TestCase):
    def test_years_by_what_divides_them(self):
        for year in (4, 8, 96, 104, 1904, 1996, 2004, 9996, 400, 800, 1600, 2000, 9600):
            self.assertIs(is_leap(year), True, year)
        for year in (1, 2, 3, 5, 1905, 1906, 1907, 9999, 100, 200, 300, 500, 1700, 1800, 1900, 9900):
            self.assertIs(is_leap(year), False, year)

    def test_every_year_of_the_calendar(self):
        self.assertEqual(sum(is_leap(year) for year in range(1, 10000)), 2424)
        for year in range(1, 10000):
            by_hand = (year % 400 == 0) if year % 100 == 0 else (year % 4 == 0)
            self.assertIs(is_leap(year), by_hand, year)

    def test_months_of_common_years(self):
        for year in (1, 1900, 1905, 9999):
            self.assertEqual(tuple(month_length(year, month) for month in range(1, 13)), COMMON)

    def test_months_of_leap_years(self):
        for year in (4, 1904, 2000, 9996):
            self.assertEqual(tuple(month_length(year, month) for month in range(1, 13)), LEAP)


class NumbersAndDates(unittest.TestCase):
    def test_the_ends_of_the_calendar(self):
        self.assertEqual(number_of(1, 1, 1), 0)
        self.assertEqual(date_of(0), (1, 1, 1))
        self.assertEqual(number_of(9999, 12, 31), LAST)
        self.assertEqual(date_of(LAST), (9999, 12, 31))

    def test_some_days_counted_by_hand(self):
        for date, number in (
            ((1, 1, 2), 1), ((1, 1, 31), 30), ((1, 2, 1), 31), ((1, 12, 31), 364), ((2, 1, 1), 365),
            ((4, 12, 31), 1460), ((5, 1, 1), 1461), ((401, 1, 1), 146097), ((400, 12, 31), 146096),
        ):
            self.assertEqual(number_of(*date), number)
            self.assertEqual(date_of(number), date)

    def test_a_date_is_a_tuple(self):
        self.assertIsInstance(date_of(700000), tuple)

    def test_around_the_end_of_the_second_month(self):
        for year in (4, 400, 1904, 2000, 9996):
            number = number_of(year, 2, 28)
            self.assertEqual(number_of(year, 2, 29), number + 1)
            self.assertEqual(number_of(year, 3, 1), number + 2)
            self.assertEqual(date_of(number + 1), (year, 2, 29))
            self.assertEqual(date_of(number + 2), (year, 3, 1))
        for year in (1, 100, 1900, 1905, 9999):
            number = number_of(year, 2, 28)
            self.assertEqual(number_of(year, 3, 1), number + 1)
            self.assertEqual(date_of(number + 1), (year, 3, 1))

    def test_first_and_last_day_of_every_month(self):
        number = 0
        for year in range(1, 10000):
            for month, length in enumerate(LEAP if is_leap(year) else COMMON, start=1):
                self.assertEqual(number_of(year, month, 1), number)
                self.assertEqual(date_of(number), (year, month, 1))
                number += length
                self.assertEqual(number_of(year, month, length), number - 1)
                self.assertEqual(date_of(number - 1), (year, month, length))
        self.assertEqual(number, LAST + 1)

    def test_there_and_back(self):
        for number in list(range(0, 150000)) + list(range(LAST - 40000, LAST + 1)) + list(range(0, LAST, 97)):
            date = date_of(number)
            self.assertEqual(number_of(*date), number)
            by_python = datetime.date.fromordinal(number + 1)
            self.assertEqual(date, (by_python.year, by_python.month, by_python.day))

    def test_dates_that_are_not_there(self):
        for date in DATES_THAT_ARE_NOT:
            with self.assertRaises(NoSuchDay):
                number_of(*date)

    def test_one_day_too_many_in_each_month(self):
        for year, lengths in ((1900, COMMON), (1904, LEAP), (9999, COMMON)):
            for month, length in enumerate(lengths, start=1):
                for day in (-1, 0, length + 1, length + 2):
                    with self.assertRaises(NoSuchDay):
                        number_of(year, month, day)

    def test_numbers_that_no_day_has(self):
        for number in NUMBERS_THAT_ARE_NOT:
            with self.assertRaises(NoSuchDay):
                date_of(number)


class Weekdays(unittest.TestCase):
    def test_the_first_two_weeks(self):
        self.assertEqual([weekday_of(number) for number in range(14)], [0, 1, 2, 3, 4, 5, 6] * 2)

    def test_they_run_on_without_a_break(self):
        for start in (0, 146090, 693595, LAST - 1000):
            for number in range(start, start + 1000):
                self.assertEqual(weekday_of(number + 1), (weekday_of(number) + 1) % 7)

    def test_known_weekdays(self):
        self.assertEqual(weekday_of(number_of(1900, 1, 1)), 0)
        self.assertEqual(weekday_of(number_of(2000, 2, 29)), 1)
        self.assertEqual(weekday_of(LAST), 4)

    def test_numbers_that_no_day_has(self):
        for number in NUMBERS_THAT_ARE_NOT:
            with self.assertRaises(NoSuchDay):
                weekday_of(number)


class SpansAreMade(unittest.TestCase):
    def test_first_and_length(self):
        span = Span(1904, 2, 28, 3)
        self.assertEqual(span.first, number_of(1904, 2, 28))
        self.assertEqual(span.length, 3)
        self.assertEqual((Span(1, 1, 1, 1).first, Span(1, 1, 1, 1).length), (0, 1))

    def test_lengths_that_are_taken(self):
        for length in (1, 2, 799, 800):
            self.assertEqual(Span(1905, 3, 7, length).length, length)

    def test_lengths_that_are_refused(self):
        for length in (0, -1, -800, -HUGE, 801, 802, 5000, HUGE):
            with self.assertRaises(BadLength):
                Span(1905, 3, 7, length)

    def test_the_end_of_the_calendar(self):
        for days in (1, 2, 31, 799, 800):
            first = date_of(LAST - days + 1)
            self.assertEqual(Span(*first, days).date_at(days - 1), (9999, 12, 31))
        for days in (1, 2, 31, 798, 799):
            with self.assertRaises(BadLength):
                Span(*date_of(LAST - days + 1), days + 1)
        with self.assertRaises(BadLength):
            Span(9999, 12, 31, 800)

    def test_first_days_that_are_not_there(self):
        for date in DATES_THAT_ARE_NOT:
            with self.assertRaises(NoSuchDay):
                Span(*date, 10)

    def test_no_such_day_goes_ahead_of_bad_length(self):
        for date in DATES_THAT_ARE_NOT:
            for length in (0, -1, 801, HUGE, -HUGE):
                with self.assertRaises(NoSuchDay):
                    Span(*date, length)


class SpansTell(unittest.TestCase):
    def setUp(self):
        self.span = Span(1904, 2, 27, 5)
        self.dates = [(1904, 2, 27), (1904, 2, 28), (1904, 2, 29), (1904, 3, 1), (1904, 3, 2)]

    def test_each_day_there_and_back(self):
        self.assertEqual([self.span.date_at(day) for day in range(5)], self.dates)
        self.assertEqual([self.span.day_of(*date) for date in self.dates], [0, 1, 2, 3, 4])

    def test_a_whole_long_span(self):
        span = Span(1899, 6, 1, 800)
        for day in range(800):
            self.assertEqual(span.date_at(day), date_of(span.first + day))
            self.assertEqual(span.day_of(*span.date_at(day)), day)

    def test_days_outside_of_it(self):
        for day in (-1, -2, -5, -HUGE, 5, 6, 800, self.span.first, HUGE):
            with self.assertRaises(NoSuchDay):
                self.span.date_at(day)

    def test_the_length_bounds_each_span(self):
        for length in (1, 2, 31, 800):
            span = Span(1905, 3, 7, length)
            self.assertEqual(span.date_at(length - 1), date_of(span.first + length - 1))
            for day in (-1, length):
                with self.assertRaises(NoSuchDay):
                    span.date_at(day)

    def test_dates_outside_of_it(self):
        for date in ((1904, 2, 26), (1904, 3, 3), (1903, 2, 28), (1905, 2, 28), (1, 1, 1), (9999, 12, 31)):
            with self.assertRaises(NoSuchDay):
                self.span.day_of(*date)

    def test_dates_that_are_not_there(self):
        for date in DATES_THAT_ARE_NOT + ((1904, 2, 30), (1904, 3, 0)):
            with self.assertRaises(NoSuchDay):
                self.span.day_of(*date)

    def test_spans_at_both_ends_of_the_calendar(self):
        start = Span(1, 1, 1, 800)
        end = Span(*date_of(LAST - 799), 800)
        self.assertEqual(start.day_of(1, 1, 1), 0)
        self.assertEqual(start.date_at(799), date_of(799))
        self.assertEqual(end.day_of(9999, 12, 31), 799)
        for span, day in ((start, -1), (end, 800)):
            with self.assertRaises(NoSuchDay):
                span.date_at(day)


class WhatHoldsThroughout(unittest.TestCase):
    def test_asking_and_refusing_change_nothing(self):
        span = Span(1904, 2, 27, 5)
        for ask in (
            lambda: span.date_at(3), lambda: span.date_at(5), lambda: span.date_at(-1),
            lambda: span.day_of(1904, 3, 1), lambda: span.day_of(1904, 3, 3), lambda: span.day_of(0, 0, 0),
            lambda: Span(1904, 2, 27, 0), lambda: Span(1904, 2, 30, 5),
        ):
            try:
                ask()
            except InkError:
                pass
            self.assertEqual((span.first, span.length), (number_of(1904, 2, 27), 5))
            self.assertEqual(span.date_at(4), (1904, 3, 2))
            self.assertEqual(span.day_of(1904, 3, 2), 4)

    def test_spans_made_alike_are_apart(self):
        one = Span(1904, 2, 27, 5)
        other = Span(1904, 2, 27, 5)
        self.assertIsNot(one, other)
        longer = Span(1905, 1, 1, 9)
        self.assertEqual((one.first, one.length), (other.first, other.length))
        self.assertEqual((longer.length, one.length), (9, 5))


if __name__ == "__main__":
    unittest.main()
