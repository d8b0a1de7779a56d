"""The calendar of the years 1 to 9999: its days, their numbers and weekdays, and spans of days."""

from inkdays.errors import BadLength, NoSuchDay

MONTHS = (
    "january", "february", "march", "april", "may", "june",
    "july", "august", "september", "october", "november", "december",
)
WEEKDAYS = ("monday", "tuesday", "wednesday", "thursday", "friday", "saturday", "sunday")

LAST_YEAR = 9999
LAST_NUMBER = 3652058
LONGEST_SPAN = 800
DAYS_OF_400_YEARS = 146097
COMMON_LENGTHS = (31, 28, 31, 30, 31, 30, 31, 31, 30, 31, 30, 31)


def is_leap(year):
    return year % 4 == 0 and (year % 100 != 0 or year % 400 == 0)


def month_length(year, month):
    if month == 2 and is_leap(year):
        return 29
    return COMMON_LENGTHS[month - 1]


def days_ahead_of_year(year):
    whole = year - 1
    return whole * 365 + whole // 4 - whole // 100 + whole // 400


def has_date(year, month, day):
    if year < 1 or year > LAST_YEAR or month < 1 or month > 12:
        return False
    return 1 <= day and day <= month_length(year, month)


def has_number(number):
    return 0 <= number and number <= LAST_NUMBER


def number_of(year, month, day):
    if not has_date(year, month, day):
        raise NoSuchDay("the calendar does not have this date")
    number = days_ahead_of_year(year)
    for earlier in range(1, month):
        number += month_length(year, earlier)
    return number + day - 1


def year_with(number):
    # No year is longer than 366 days, so this first year is never too late;
    # counting 400 years at once keeps it at most a year or so too early.
    cycles = number // DAYS_OF_400_YEARS
    year = cycles * 400 + (number % DAYS_OF_400_YEARS) // 366 + 1
    while days_ahead_of_year(year + 1) <= number:
        year += 1
    return year


def date_of(number):
    if not has_number(number):
        raise NoSuchDay("no day of the calendar has this number")
    year = year_with(number)
    rest = number - days_ahead_of_year(year)
    month = 1
    while rest >= month_length(year, month):
        rest -= month_length(year, month)
        month += 1
    return (year, month, rest + 1)


def weekday_of(number):
    if not has_number(number):
        raise NoSuchDay("no day of the calendar has this number")
    return number % 7


class Span:
    def __init__(self, year, month, day, length):
        # The first day is looked up ahead of the length: NoSuchDay goes first.
        first = number_of(year, month, day)
        if length < 1 or length > LONGEST_SPAN:
            raise BadLength("a span has 1 to 800 days")
        if not has_number(first + length - 1):
            raise BadLength("the span's last day lies behind the calendar's end")
        self.first = first
        self.length = length

    def date_at(self, day):
        if day < 0 or day >= self.length:
            raise NoSuchDay("the span does not have this day")
        return date_of(self.first + day)

    def day_of(self, year, month, day):
        from_first = number_of(year, month, day) - self.first
        if from_first < 0 or from_first >= self.length:
            raise NoSuchDay("this date lies outside the span")
        return from_first
