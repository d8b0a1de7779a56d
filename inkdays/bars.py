"""Where rows can't be read together: what bars a day, and the shortest stretch that clashes."""

from inkdays.chain import days_ahead, days_behind


def break_ahead(rows, gap, place, day):
    """The nearest place ahead from which no reading leads up to the day at its place, or None."""
    days = [day]
    for first in range(place - 1, -1, -1):
        days = days_ahead(rows[first], days, gap)
        if days == []:
            return first
    return None


def break_behind(rows, gap, place, day):
    """The nearest place behind to which no reading leads on from the day at its place, or None."""
    days = [day]
    for last in range(place + 1, len(rows)):
        days = days_behind(days, rows[last], gap)
        if days == []:
            return last
    return None


def barred_by(rows, gap, place, day):
    if day not in rows[place]:
        return (place, place)
    first = break_ahead(rows, gap, place, day)
    last = break_behind(rows, gap, place, day)
    if first is None and last is None:
        return None
    if first is None:
        return (place, last)
    if last is None or place - first <= last - place:
        return (first, place)
    return (place, last)


def end_of_clash(rows, gap, first):
    """The last place of the shortest stretch from the first place that can't be read together, or None."""
    days = rows[first]
    last = first
    while days != []:
        last += 1
        if last == len(rows):
            return None
        days = days_behind(days, rows[last], gap)
    return last


def clash(rows, gap):
    shortest = None
    for first in range(len(rows)):
        last = end_of_clash(rows, gap, first)
        if last is None:
            # What can be read to the last row can also be read from any later row on.
            return shortest
        if shortest is None or last - first < shortest[1] - shortest[0]:
            shortest = (first, last)
    return shortest
