"""Points 2, 3 and 8: forms read into their pieces."""

import itertools
import unittest

from inkdays.errors import BadForm
from inkdays.forms import read_form

PLACES = "dmyYnw"
SIGNS = "abcdefghijklmnopqrstuvwxyz0123456789 ./-,"
ALL_SIGNS = [chr(code) for code in range(ord(" "), ord("~") + 1) if chr(code) != "%"]


def by_description(form):
    """The pieces of a form by point 8, looked for in another way; None for no form."""
    if not 1 <= len(form) <= 30:
        return None
    flat = form
    for letter in PLACES:
        if flat.count(f"<{letter}>") > 1:
            return None
        # One sign outside of the printed ones for each place.
        flat = flat.replace(f"<{letter}>", chr(1000 + ord(letter)))
    pieces = []
    for number, part in enumerate(flat.split("[")):
        inside, closing, outside = part.partition("]")
        if number == 0:
            inside, outside = "", part
            if closing:
                return None
        elif not closing or not inside or number > 3:
            return None
        for text, lacking in ((inside, number), (outside, 0)):
            for sign in text:
                if sign in SIGNS:
                    pieces.append(("sign", sign, lacking))
                elif ord(sign) > 1000:
                    pieces.append(("place", chr(ord(sign) - 1000), lacking))
                else:
                    return None
    return pieces


class Reading(unittest.TestCase):
    def refused(self, *forms):
        for form in forms:
            with self.subTest(form), self.assertRaises(BadForm):
                read_form(form)

    def test_each_place(self):
        for letter in PLACES:
            self.assertEqual(read_form(f"<{letter}>"), [("place", letter, 0)])
            self.assertEqual(read_form(f"[<{letter}>]"), [("place", letter, 1)])

    def test_each_sign(self):
        for sign in SIGNS:
            self.assertEqual(read_form(sign), [("sign", sign, 0)])
            self.assertEqual(read_form(f"[{sign}]"), [("sign", sign, 1)])

    def test_pieces_in_their_order(self):
        self.assertEqual(read_form("<d>.<m>.<Y>"), [
            ("place", "d", 0), ("sign", ".", 0), ("place", "m", 0), ("sign", ".", 0), ("place", "Y", 0),
        ])

    def test_a_letter_that_is_a_sign_is_no_place(self):
        self.assertEqual(read_form("d<d>d"), [("sign", "d", 0), ("place", "d", 0), ("sign", "d", 0)])

    def test_signs_may_stand_more_than_once(self):
        self.assertEqual(read_form("aa[a]"), [("sign", "a", 0), ("sign", "a", 0), ("sign", "a", 1)])

    def test_lacking_parts_are_counted_from_the_left(self):
        self.assertEqual(read_form("[<w>, ]<d>[ <n>]-[<y>/<Y>]."), [
            ("place", "w", 1), ("sign", ",", 1), ("sign", " ", 1), ("place", "d", 0),
            ("sign", " ", 2), ("place", "n", 2), ("sign", "-", 0),
            ("place", "y", 3), ("sign", "/", 3), ("place", "Y", 3), ("sign", ".", 0),
        ])

    def test_kinds_of_what_is_told(self):
        pieces = read_form("<d>[a]")
        self.assertIsInstance(pieces, list)
        for piece in pieces:
            self.assertIsInstance(piece, tuple)
            self.assertEqual([part.__class__ for part in piece], [str, str, int])

    def test_all_places_in_one_form(self):
        self.assertEqual(read_form("<w><n><Y><y><m><d>"), [("place", letter, 0) for letter in "wnYymd"])

    def test_lengths(self):
        self.refused("", "a" * 31, "<d>" + "a" * 28, "[" + "a" * 29 + "]", "a" * 200)
        self.assertEqual(read_form("a"), [("sign", "a", 0)])
        self.assertEqual(read_form("a" * 30), [("sign", "a", 0)] * 30)
        self.assertEqual(read_form("<d>" + "a" * 27), [("place", "d", 0)] + [("sign", "a", 0)] * 27)
        self.assertEqual(read_form("[" + "a" * 28 + "]"), [("sign", "a", 1)] * 28)

    def test_a_place_twice(self):
        for letter in PLACES:
            place = f"<{letter}>"
            self.refused(
                place + place, f"{place}.{place}", f"{place}[{place}]", f"[{place}]{place}",
                f"[{place}{place}]", f"[{place}][{place}]", f"a{place}b[c{place}]d",
            )

    def test_alike_places_are_two(self):
        self.assertEqual(read_form("<y><Y>"), [("place", "y", 0), ("place", "Y", 0)])
        self.assertEqual(read_form("<m><n>"), [("place", "m", 0), ("place", "n", 0)])

    def test_empty_lacking_parts(self):
        self.refused("[]", "a[]", "[]a", "[a][]", "[][a]", "<d>[]<m>")

    def test_nested_lacking_parts(self):
        self.refused("[[a]]", "[a[b]]", "[a[b]c]", "[[a]b]", "[[", "[[a]", "[[]]")

    def test_unclosed_lacking_parts(self):
        self.refused("[", "[a", "a[", "a[b", "[a][b", "<d>[<m>", "[<d>")

    def test_unopened_lacking_parts(self):
        self.refused("]", "a]", "]a", "a]b", "[a]]", "]a[", "[a]b]", "][")

    def test_three_and_four_lacking_parts(self):
        self.assertEqual(read_form("[a][b][c]"), [("sign", "a", 1), ("sign", "b", 2), ("sign", "c", 3)])
        self.refused("[a][b][c][d]", "a[a]b[b]c[c]d[d]e", "[a][b][c][d][e]", "[a][b][c][", "[a][b][c][]")

    def test_signs_that_are_none(self):
        for sign in ALL_SIGNS:
            if sign not in SIGNS:
                self.refused(sign, "a" + sign, sign + "a", f"[{sign}]", f"<d>{sign}<m>")

    def test_places_that_are_none(self):
        self.refused(
            "<", ">", "<>", "<x>", "<D>", "<M>", "<N>", "<W>", "<d", "d>", "<<d>>", "<<d>", "<d>>", "< d>", "<d >",
            "<dd>", "<[d]>", "<1>", "< >", "<m", "<d><", "a<d", "[<d]", "<d[>]", "[<]d>", "<d><m",
        )

    def test_each_letter_between_brackets(self):
        for sign in ALL_SIGNS:
            if sign not in PLACES:
                self.refused(f"<{sign}>")

    def test_all_short_texts_of_some_tokens(self):
        for length in range(1, 7):
            for tokens in itertools.product(("a", "[", "]", "<d>", "<"), repeat=length):
                form = "".join(tokens)
                expected = by_description(form)
                if expected is None:
                    with self.assertRaises(BadForm, msg=form):
                        read_form(form)
                else:
                    self.assertEqual(read_form(form), expected, form)


class WhatHoldsThroughout(unittest.TestCase):
    def test_the_list_is_the_callers_own(self):
        told = read_form("<d>[.<m>]")
        kept = list(told)
        told.clear()
        self.assertEqual(read_form("<d>[.<m>]"), kept)
        again = read_form("<d>[.<m>]")
        again[0] = ("sign", "x", 3)
        again.append(("sign", "y", 0))
        self.assertEqual(read_form("<d>[.<m>]"), kept)
        self.assertIsNot(read_form("<d>"), read_form("<d>"))

    def test_a_refusal_changes_nothing(self):
        kept = read_form("[<d>]a")
        for form in ("[<d>", "[<d>][", "<d><d>", "[a][b][c][d]"):
            with self.assertRaises(BadForm):
                read_form(form)
            self.assertEqual(read_form("[<d>]a"), kept)


if __name__ == "__main__":
    unittest.main()
