"""Points 1 to 3 and 9 to 12: how days are written in forms, and an entry's own readings."""

import datetime
import itertools
import re
import unittest

from inkdays.days import MONTHS, WEEKDAYS, Span, date_of, number_of, weekday_of
from inkdays.errors import BadForm, BadForms, BadText, InkError, NoSuchDay
from inkdays.reading import fits, own_days

LAST = 3652058
# Too long for Python to write out in figures.
HUGE = 10 ** 5000
SIGNS = "abcdefghijklmnopqrstuvwxyz0123456789 ./-,"
ALL_SIGNS = [chr(code) for code in range(ord(" "), ord("~") + 1) if chr(code) != "%"]
BAD_FORMS = ("", "<x>", "<d", "[]", "[a", "a]", "<d><d>", "A", "a" * 31, "[a][b][c][d]", "[a[b]]", "~")
BAD_TEXTS = ("", "a" * 21, "A", "3.March", "3:4", "<d>", "[a]", "a_b", "~", "a" * 200, "3 mar!")
BAD_NUMBERS = (-1, -HUGE, LAST + 1, 2 * LAST, HUGE)
# Sorted so that places stand side by side, apart, lacking, and beside signs that look like a part of them.
FORMS = (
    "<d>", "<m>", "<y>", "<Y>", "<n>", "<w>", "<d><m>", "<m><d>", "<d><m><y>", "<y><m><d>", "<d><m><Y>", "<y><Y>",
    "<n><w>", "<w><n>", "<n><d>", "<d><n>", "<w><d><n><y>", "<d>.<m>.<y>", "<d>/<m>-<Y>", "<w>, <d> <n>",
    "1<d>", "0<d>", "<d>0", "0<m><d>", "<n>m", "m<n>", "<w>s", "<d>[.<m>]", "[<d>]", "[<d>][<m>]", "[<d>][<m>][<y>]",
    "[<w> ]<d>[ <n>][ <Y>]", "[<w>][<n>]<d>", "[0]<d>[0]", "[1<d>]1<m>", "[<n>m]<w>", "a", "[a]", "[a]b[c]", "a[a][aa]",
)


def ways_of_place(letter, number):
    date = datetime.date.fromordinal(number + 1)
    weekday = ("monday", "tuesday", "wednesday", "thursday", "friday", "saturday", "sunday")[date.weekday()]
    if letter == "d":
        return {"%d" % date.day, "%02d" % date.day}
    if letter == "m":
        return {"%d" % date.month, "%02d" % date.month}
    if letter == "y":
        return {("%04d" % date.year)[2:]}
    if letter == "Y":
        return {"%04d" % date.year}
    name = MONTHS[date.month - 1] if letter == "n" else weekday
    return {name[:length] for length in range(1, len(name) + 1)}


def writings(form, number):
    """Every way in which point 9 writes the day in the form, each one written out."""
    choices = []
    for lacking, place, sign in re.findall(r"\[([^]]*)\]|<(.)>|(.)", form):
        if lacking:
            choices.append(writings(lacking, number) | {""})
        elif place:
            choices.append(ways_of_place(place, number))
        else:
            choices.append({sign})
    return {"".join(chosen) for chosen in itertools.product(*choices)}


def near_texts(text):
    """The text and some that are almost it."""
    yield text
    for k in range(len(text)):
        yield text[:k] + text[k + 1:]
        yield text[:k] + "0" + text[k:]
        yield text[:k] + text[k] + text[k:]
    yield text + "1"
    yield text + " "
    yield " " + text


class Fitting(unittest.TestCase):
    def check(self, form, date, taken, not_taken):
        number = number_of(*date)
        for text in taken:
            self.assertIs(fits(form, text, number), True, (form, text, date))
        for text in not_taken:
            self.assertIs(fits(form, text, number), False, (form, text, date))


class EachPiece(Fitting):
    def test_signs_write_themselves(self):
        for sign in SIGNS:
            for other in SIGNS:
                self.assertIs(fits(sign, other, 700000), sign == other)

    def test_the_day_of_the_month(self):
        self.check("<d>", (1905, 5, 3), ("3", "03"), ("003", "3 ", "5", "05", "0", "30", "13", "third"))
        self.check("<d>", (1905, 5, 9), ("9", "09"), ("009", "19"))
        self.check("<d>", (1905, 5, 10), ("10",), ("010", "1", "0", "100"))
        self.check("<d>", (1905, 5, 31), ("31",), ("031", "3", "1", "13"))

    def test_the_month(self):
        self.check("<m>", (1905, 3, 4), ("3", "03"), ("003", "4", "04", "march", "m"))
        self.check("<m>", (1905, 9, 4), ("9", "09"), ("009",))
        self.check("<m>", (1905, 10, 4), ("10",), ("010", "1", "0"))
        self.check("<m>", (1905, 12, 4), ("12",), ("012", "2", "02"))

    def test_the_last_two_figures_of_the_year(self):
        self.check("<y>", (1905, 3, 4), ("05",), ("5", "1905", "905", "005", "19"))
        self.check("<y>", (7, 3, 4), ("07",), ("7", "0007", "007"))
        self.check("<y>", (1900, 3, 4), ("00",), ("0", "000", "1900", "100"))
        self.check("<y>", (1999, 3, 4), ("99",), ("9", "1999"))
        self.check("<y>", (110, 3, 4), ("10",), ("110", "1", "0110"))

    def test_the_year_in_four_figures(self):
        self.check("<Y>", (912, 3, 4), ("0912",), ("912", "12", "00912"))
        self.check("<Y>", (7, 3, 4), ("0007",), ("7", "07", "007", "00007"))
        self.check("<Y>", (1905, 3, 4), ("1905",), ("05", "905", "01905", "5"))
        self.check("<Y>", (9999, 3, 4), ("9999",), ("99", "999", "99999"))

    def test_the_months_name(self):
        self.check("<n>", (1905, 3, 4), ("march", "mar", "m", "ma", "marc"), ("marhc", "arch", "may", "marchs", "3"))
        for month, name in enumerate(MONTHS, start=1):
            for other in range(1, 13):
                for length in range(1, len(name) + 1):
                    asked = fits("<n>", name[:length], number_of(1905, other, 1))
                    self.assertIs(asked, MONTHS[other - 1][:length] == name[:length], (name[:length], other))

    def test_the_weekdays_name(self):
        monday = number_of(1900, 1, 1)
        for weekday, name in enumerate(WEEKDAYS):
            for other in range(7):
                for length in range(1, len(name) + 1):
                    asked = fits("<w>", name[:length], monday + other)
                    self.assertIs(asked, WEEKDAYS[other][:length] == name[:length], (name[:length], other))
            self.assertIs(fits("<w>", name + "s", monday + weekday), False)

    def test_a_month_alone_takes_each_of_its_days(self):
        for number in range(number_of(1904, 1, 1), number_of(1905, 1, 1)):
            self.assertIs(fits("<n>", "february", number), date_of(number)[1] == 2)

    def test_a_form_without_a_place_takes_every_day(self):
        for number in (0, 1, 31, 365, 700000, LAST - 1, LAST):
            self.assertIs(fits("day", "day", number), True)
            self.assertIs(fits("day", "da", number), False)
            self.assertIs(fits("[x]y", "y", number), True)


class PiecesTogether(Fitting):
    def test_places_side_by_side(self):
        self.check("<d><m>", (1905, 11, 1), ("111", "0111"), ("11", "1101", "011"))
        self.check("<d><m>", (1905, 1, 11), ("111", "1101"), ("11", "0111"))
        self.check("<d><m>", (1905, 1, 1), ("11", "011", "101", "0101"), ("111", "1", "01", "0011"))
        self.check("<d><m>", (1905, 11, 11), ("1111",), ("111", "11"))
        self.check(
            "<n><w>", (1905, 5, 1), ("mm", "mam", "maymonday", "mmo", "maymon"), ("m", "may", "monday", "monmay"),
        )
        self.check("<y><Y>", (1905, 5, 1), ("051905",), ("1905", "05", "190505"))
        self.check("<y><d>", (1905, 5, 5), ("055", "0505"), ("05", "55"))

    def test_a_name_beside_a_sign_like_it(self):
        self.check("<n>n", (1905, 1, 5), ("jn", "jan", "jann", "januaryn"), ("january", "n", "janna"))
        self.check("m<n>", (1905, 5, 5), ("mm", "mma", "mmay"), ("m", "may", "mmm"))

    def test_a_figure_beside_a_sign_like_it(self):
        self.check("0<d>", (1905, 1, 3), ("03", "003"), ("3", "0003"))
        self.check("<d>0", (1905, 1, 3), ("30", "030"), ("3", "03", "300"))

    def test_a_whole_date(self):
        self.check(
            "<w>, <d> <n> <Y>", (1905, 3, 7), ("tuesday, 7 mar 1905", "tue, 07 march 1905", "t, 7 m 1905"),
            ("wed, 7 mar 1905", "tue, 8 mar 1905", "tue, 7 may 1905", "tue, 7 mar 1906", "tue,7 mar 1905",
             "tue, 7 mar 05", "tue, 7 mar 1905 ", "7 mar 1905"),
        )

    def test_lacking_parts_there_and_left_out(self):
        self.check("<d>[.<m>]", (1905, 4, 3), ("3", "03", "3.4", "03.04"), ("3.", ".4", "3.5", "4", "34", "3.4."))
        self.check("[<w> ]<d>", (1905, 3, 7), ("7", "tue 7", "t 07"), ("tue", "tue7", " 7", "wed 7", "tue "))
        self.check("[a]b", (1, 1, 1), ("b", "ab"), ("a", "aab", "abb"))

    def test_each_lacking_part_for_itself(self):
        self.check(
            "[a]x[b]y[c]", (1, 1, 1), ("xy", "axy", "xby", "xyc", "axby", "axyc", "xbyc", "axbyc"),
            ("abxyc", "ax", "xb", "aaxy", "x", "axbc"),
        )
        self.check("[a][a][a]", (1, 1, 1), ("a", "aa", "aaa"), ("aaaa", "b", "ab"))
        self.check("[<d>][<m>]", (1905, 4, 3), ("3", "4", "34", "0304", "03", "04"), ("43", "5", "344"))

    def test_a_lacking_part_is_whole_or_not_there(self):
        self.check("[ab]c", (1, 1, 1), ("c", "abc"), ("ac", "bc"))
        self.check("<d>[ <n> <Y>]", (1905, 4, 3), ("3", "3 a 1905"), ("3 april", "3 1905", "3 april ", "3 "))

    def test_a_form_of_one_lacking_part(self):
        self.check("[<d>]", (1905, 4, 3), ("3", "03"), ("4", "33"))

    def test_both_readings_of_the_same_signs_count(self):
        # The sign can be the lacking one or the one behind it.
        self.check("[1]<d>", (1905, 4, 1), ("1", "11", "01", "101"), ("111", "10"))
        self.check("[1]<d>", (1905, 4, 11), ("11", "111"), ("1", "1111"))

    def test_the_first_and_the_last_day_of_the_calendar(self):
        self.check("<w> <d>.<m>.<Y>", (1, 1, 1), ("monday 1.1.0001", "m 01.01.0001"), ("monday 1.1.1", "s 1.1.0001"))
        self.check("<d><m><y>", (1, 1, 1), ("1101", "010101"), ("111", "11"))
        self.check("<w> <d>.<m>.<Y>", (9999, 12, 31), ("friday 31.12.9999", "f 31.12.9999"), ("s 31.12.9999",))
        self.check("<d><n><y>", (9999, 12, 31), ("31d99", "31december99"), ("31d9999", "1d99"))
        self.assertIs(fits("<d>", "1", 0), True)
        self.assertIs(fits("<d>", "31", LAST), True)

    def test_against_every_writing(self):
        numbers = [0, 1, 8, 9, 30, 31, LAST - 30, LAST] + [
            number_of(*date) for date in (
                (7, 7, 7), (100, 10, 10), (912, 3, 4), (1900, 1, 1), (1905, 5, 1), (1905, 11, 1), (1905, 1, 11),
                (1911, 11, 11), (2000, 2, 29), (1999, 12, 9), (1901, 6, 23), (1910, 10, 20),
            )
        ]
        for form in FORMS:
            written = [writings(form, number) for number in numbers]
            short = sorted(set().union(*written), key=lambda text: (len(text), text))
            texts = {near for text in short[::max(1, len(short) // 12)] for near in near_texts(text)}
            for text in sorted(texts):
                if 1 <= len(text) <= 20:
                    for number, ways in zip(numbers, written):
                        self.assertIs(fits(form, text, number), text in ways, (form, text, number))


class FitsRefuses(unittest.TestCase):
    def test_bad_forms_go_first(self):
        for form in BAD_FORMS:
            for text, number in (("3", 5), ("3", -1), ("", 5), ("A", LAST + 1)):
                with self.assertRaises(BadForm, msg=(form, text, number)):
                    fits(form, text, number)

    def test_bad_texts_go_next(self):
        for text in BAD_TEXTS:
            for number in (0, 5, LAST) + BAD_NUMBERS:
                with self.assertRaises(BadText, msg=(text, number)):
                    fits("<d>", text, number)

    def test_numbers_that_no_day_has_go_last(self):
        for number in BAD_NUMBERS:
            for form, text in (("<d>", "3"), ("a", "a"), ("a", "b"), ("[<w>]<d>", "3")):
                with self.assertRaises(NoSuchDay):
                    fits(form, text, number)

    def test_each_sign_of_a_text(self):
        for sign in ALL_SIGNS:
            for text in (sign, "a" + sign, sign + "a", "a" * 19 + sign):
                if sign in SIGNS:
                    self.assertIn(fits("<d>", text, 5), (True, False))
                else:
                    with self.assertRaises(BadText, msg=text):
                        fits("<d>", text, 5)

    def test_lengths_of_a_text(self):
        self.assertIs(fits("a" * 20, "a" * 20, 5), True)
        self.assertIs(fits("a", "a", 5), True)
        # The form could write this text, but an entry can't have it.
        for form, text in (("a" * 21, "a" * 21), ("[a]", "")):
            with self.assertRaises(BadText):
                fits(form, text, 5)


class OwnDays(unittest.TestCase):
    def test_days_of_the_span_from_the_earliest_to_the_latest(self):
        span = Span(1904, 2, 27, 5)
        self.assertEqual(own_days(["<d>"], "29", span), [2])
        self.assertEqual(own_days(["<n>"], "f", span), [0, 1, 2])
        self.assertEqual(own_days(["<n>"], "march", span), [3, 4])
        self.assertEqual(own_days(["x"], "x", span), [0, 1, 2, 3, 4])

    def test_there_may_be_none(self):
        span = Span(1904, 2, 27, 5)
        for forms, text in ((["<d>"], "15"), (["<n>"], "april"), (["x"], "y"), (["<d>", "<Y>"], "1905")):
            self.assertEqual(own_days(forms, text, span), [])

    def test_some_form_does_and_each_day_stands_once(self):
        span = Span(1905, 1, 1, 365)
        by_day = [day for day in range(365) if span.date_at(day)[2] == 3]
        by_month = [day for day in range(365) if span.date_at(day)[1] == 3]
        both = sorted(set(by_day + by_month))
        self.assertEqual(own_days(["<d>"], "3", span), by_day)
        self.assertEqual(own_days(["<m>"], "3", span), by_month)
        self.assertEqual(own_days(["<d>", "<m>"], "3", span), both)
        self.assertEqual(own_days(["<m>", "<d>"], "3", span), both)
        self.assertEqual(own_days(["[<d>][<m>]"], "3", span), both)

    def test_equal_forms(self):
        span = Span(1905, 1, 1, 100)
        self.assertEqual(own_days(["<d>"] * 6, "3", span), own_days(["<d>"], "3", span))

    def test_which_of_six_forms_does_is_no_matter(self):
        span = Span(1905, 1, 1, 40)
        for k in range(6):
            forms = ["x"] * 6
            forms[k] = "<d>/<m>"
            self.assertEqual(own_days(forms, "2/1", span), [1])

    def test_one_text_in_two_orders(self):
        span = Span(1905, 1, 1, 365)
        self.assertEqual(
            own_days(["<d>/<m>", "<m>/<d>"], "3/4", span), [span.day_of(1905, 3, 4), span.day_of(1905, 4, 3)]
        )

    def test_places_side_by_side(self):
        span = Span(1905, 1, 1, 365)
        self.assertEqual(own_days(["<d><m>"], "111", span), [span.day_of(1905, 1, 11), span.day_of(1905, 11, 1)])

    def test_spans_at_the_ends_of_the_calendar(self):
        start = Span(1, 1, 1, 800)
        end = Span(*date_of(LAST - 799), 800)
        self.assertEqual(own_days(["<d>.<m>.<Y>"], "1.1.0001", start), [0])
        self.assertEqual(own_days(["<d>.<m>"], "1.1", start), [0, 365, 730])
        self.assertEqual(own_days(["<d>.<m>.<y>"], "31.12.99", end), [799])
        self.assertEqual(own_days(["<d>.<m>.<y>"], "1.1.0001", end), [])
        self.assertEqual(own_days(["a"], "a", Span(9999, 12, 31, 1)), [0])
        self.assertEqual(own_days(["a"], "a", end), list(range(800)))

    def test_a_leap_day(self):
        self.assertEqual(own_days(["<d>.<m>"], "29.2", Span(1903, 1, 1, 800)), [365 + 31 + 28])
        self.assertEqual(own_days(["<d>.<m>"], "29.2", Span(1899, 1, 1, 800)), [])

    def test_they_are_just_the_days_that_fit(self):
        span = Span(1904, 12, 20, 120)
        for forms in (FORMS[0:6], FORMS[6:12], FORMS[12:18], FORMS[18:24], FORMS[24:30], FORMS[30:36], FORMS[36:40]):
            for text in ("1", "11", "111", "m", "mm", "t", "05", "1905", "1.1", "t 1 j", "a", "bc", "010105"):
                expected = [
                    day for day in range(120) if any(text in writings(form, span.first + day) for form in forms)
                ]
                self.assertEqual(own_days(list(forms), text, span), expected, (forms, text))
                expected = [day for day in range(120) if any(fits(form, text, span.first + day) for form in forms)]
                self.assertEqual(own_days(list(forms), text, span), expected, (forms, text))


class OwnDaysRefuses(unittest.TestCase):
    def setUp(self):
        self.span = Span(1905, 1, 1, 10)

    def test_too_few_or_too_many_forms_go_first(self):
        for forms in ([], ["<d>"] * 7, ["<d>"] * 8, ["<x>"] * 7, ["<d>"] * 6 + [""], ["A"] * 100):
            for text in ("3",) + BAD_TEXTS:
                with self.assertRaises(BadForms, msg=(forms, text)):
                    own_days(forms, text, self.span)

    def test_bad_forms_go_next(self):
        for form in BAD_FORMS:
            for many in range(1, 7):
                for k in range(many):
                    forms = ["<d>"] * many
                    forms[k] = form
                    for text in ("3", "", "A"):
                        with self.assertRaises(BadForm, msg=(forms, text)):
                            own_days(forms, text, self.span)

    def test_bad_texts_go_last(self):
        for text in BAD_TEXTS:
            for many in (1, 6):
                with self.assertRaises(BadText, msg=text):
                    own_days(["<d>"] * many, text, self.span)

    def test_one_and_six_forms_are_taken(self):
        self.assertEqual(own_days(["<d>"], "3", self.span), [2])
        self.assertEqual(own_days(["<d>", "<m>", "<y>", "<Y>", "<n>", "<w>"], "3", self.span), [2])


class WhatHoldsThroughout(unittest.TestCase):
    def test_the_list_is_the_callers_own(self):
        span = Span(1905, 1, 1, 40)
        told = own_days(["<d>"], "3", span)
        self.assertEqual(told, [2, 33])
        told.append(99)
        told[0] = -5
        self.assertEqual(own_days(["<d>"], "3", span), [2, 33])
        self.assertIsNot(own_days(["<d>"], "3", span), own_days(["<d>"], "3", span))
        own_days(["<d>"], "3", span).clear()
        self.assertEqual(own_days(["<d>"], "3", span), [2, 33])

    def test_what_is_handed_in_stays_as_it_is(self):
        forms = ["<d>", "<m>", "<d>"]
        span = Span(1905, 1, 1, 40)
        own_days(forms, "3", span)
        self.assertEqual(forms, ["<d>", "<m>", "<d>"])
        self.assertEqual((span.first, span.length), (number_of(1905, 1, 1), 40))

    def test_a_list_of_forms_changed_later_changes_only_what_is_asked_with_it(self):
        forms = ["<d>"]
        span = Span(1905, 1, 1, 40)
        told = own_days(forms, "3", span)
        forms[0] = "<m>"
        self.assertEqual(told, [2, 33])
        self.assertEqual(own_days(forms, "3", span), [])
        self.assertEqual(own_days(["<d>"], "3", span), [2, 33])

    def test_a_refusal_changes_nothing(self):
        span = Span(1905, 1, 1, 40)
        forms = ["<d>", "<x>"]
        for handed in (([], "3"), (forms, "3"), (["<d>"], "A")):
            with self.assertRaises(InkError):
                own_days(*handed, span)
            self.assertEqual(own_days(["<d>"], "3", span), [2, 33])
        self.assertEqual(forms, ["<d>", "<x>"])

    def test_months_and_weekdays_stay_as_they_are(self):
        fits("<n><w>", "mm", 700000)
        self.assertEqual((MONTHS[0], MONTHS[11], WEEKDAYS[0]), ("january", "december", "monday"))
        self.assertEqual(weekday_of(0), 0)


if __name__ == "__main__":
    unittest.main()
