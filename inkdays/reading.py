"""Entries: which days a text can mean when it is read by a form, or by a list of forms."""

from inkdays.days import MONTHS, WEEKDAYS, date_of, weekday_of
from inkdays.errors import BadForms, BadText
from inkdays.forms import PLAIN_SIGNS, read_form

LONGEST_TEXT = 20
MOST_FORMS = 6


def check_text(text):
    if len(text) < 1 or len(text) > LONGEST_TEXT:
        raise BadText("an entry's text has 1 to 20 signs")
    for sign in text:
        if sign not in PLAIN_SIGNS:
            raise BadText("this sign does not stand in an entry's text")


def split_into_parts(pieces):
    """The pieces in groups: each lacking part by itself, and what stands between lacking parts."""
    parts = []
    for k, piece in enumerate(pieces):
        if k == 0 or piece[2] != pieces[k - 1][2]:
            parts.append([])
        parts[-1].append(piece)
    return parts


def parts_of_form(form):
    return split_into_parts(read_form(form))


def parts_of_forms(forms):
    if len(forms) < 1 or len(forms) > MOST_FORMS:
        raise BadForms("entries are read by 1 to 6 forms")
    return [parts_of_form(form) for form in forms]


def figures(number):
    if number < 10:
        return [str(number), f"0{number}"]
    return [str(number)]


def beginnings(name):
    return [name[:length] for length in range(1, len(name) + 1)]


def ways_of_day(number):
    """For each place of a form all the ways in which the day is written there."""
    date = date_of(number)
    year = date[0]
    month = date[1]
    return {
        "d": figures(date[2]),
        "m": figures(month),
        "y": [str(year % 100).zfill(2)],
        "Y": [str(year).zfill(4)],
        "n": beginnings(MONTHS[month - 1]),
        "w": beginnings(WEEKDAYS[weekday_of(number)]),
    }


def ends_of_piece(written, text, starts):
    ends = []
    for start in starts:
        for way in written:
            end = start + len(way)
            if text[start:end] == way and end not in ends:
                ends.append(end)
    return ends


def ends_of_part(part, ways, text, starts):
    ends = starts
    for piece in part:
        written = ways[piece[1]] if piece[0] == "place" else [piece[1]]
        ends = ends_of_piece(written, text, ends)
        if ends == []:
            return []
    return ends


def is_written(parts, ways, text):
    # Pieces side by side can share the text out in several ways,
    # so every count of signs that those up to here can take is kept.
    ends = [0]
    for part in parts:
        starts = ends
        ends = ends_of_part(part, ways, text, starts)
        if part[0][2] > 0:
            ends = starts + [end for end in ends if end not in starts]
    return len(text) in ends


def fits(form, text, number):
    parts = parts_of_form(form)
    check_text(text)
    return is_written(parts, ways_of_day(number), text)


def some_form_allows(forms_in_parts, ways, text):
    for parts in forms_in_parts:
        if is_written(parts, ways, text):
            return True
    return False


def days_of_text(forms_in_parts, text, span):
    check_text(text)
    days = []
    for day in range(span.length):
        if some_form_allows(forms_in_parts, ways_of_day(span.first + day), text):
            days.append(day)
    return days


def own_days(forms, text, span):
    return days_of_text(parts_of_forms(forms), text, span)
