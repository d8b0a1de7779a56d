"""Rows of days read together: each day no earlier than the one ahead of it and at most the gap later."""


def days_behind(ahead, row, gap):
    """The days of the row that can come next behind one of the days ahead."""
    days = []
    passed = 0
    for day in row:
        while passed < len(ahead) and ahead[passed] <= day:
            passed += 1
        # Of the days ahead that are no later the latest is the nearest: where it does not do, none does.
        if passed > 0 and day - ahead[passed - 1] <= gap:
            days.append(day)
    return days


def days_ahead(row, behind, gap):
    """The days of the row behind which one of the days behind can come next."""
    days = []
    passed = 0
    for day in row:
        while passed < len(behind) and behind[passed] < day:
            passed += 1
        # Of the days behind that are no earlier the earliest is the nearest: where it does not do, none does.
        if passed < len(behind) and behind[passed] - day <= gap:
            days.append(day)
    return days


def forth_days(rows, gap):
    told = []
    for row in rows:
        if told == []:
            told.append(list(row))
        else:
            told.append(days_behind(told[-1], row, gap))
    return told


def back_days(rows, gap):
    told = []
    for row in reversed(rows):
        if told == []:
            told.append(list(row))
        else:
            told.append(days_ahead(row, told[-1], gap))
    told.reverse()
    return told


def possible_days(rows, gap):
    # Whatever comes behind a day that a reading leads up to is led up to as well,
    # so going back over those days alone leaves out no whole reading.
    return back_days(forth_days(rows, gap), gap)


def earliest(rows, gap):
    possible = possible_days(rows, gap)
    if [] in possible:
        return None
    return [days[0] for days in possible]


def latest(rows, gap):
    possible = possible_days(rows, gap)
    if [] in possible:
        return None
    return [days[-1] for days in possible]


def witness(rows, gap, place, day):
    if day not in rows[place]:
        return None
    # The whole readings with the day at the place are those of the rows with the day alone there.
    return earliest(rows[:place] + [[day]] + rows[place + 1:], gap)
