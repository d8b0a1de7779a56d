"""How many whole readings rows have, and the order in which these stand."""

from inkdays.errors import NoSuchReading


def sums_up_to(numbers):
    """For each k from 0 to all of them the sum of the first k numbers."""
    sums = [0]
    for number in numbers:
        sums.append(sums[-1] + number)
    return sums


def counts_ahead(row, behind, counts, gap):
    """For each day of the row how many readings begin with it, from the days behind and their counts."""
    sums = sums_up_to(counts)
    told = []
    start = 0
    end = 0
    for day in row:
        while start < len(behind) and behind[start] < day:
            start += 1
        while end < len(behind) and behind[end] - day <= gap:
            end += 1
        told.append(sums[end] - sums[start])
    return told


def back_counts(rows, gap):
    """For each day of each row how many whole readings of the rows from this one to the last begin with it."""
    told = []
    behind = []
    for row in reversed(rows):
        if told == []:
            told.append([1 for day in row])
        else:
            told.append(counts_ahead(row, behind, told[-1], gap))
        behind = row
    told.reverse()
    return told


def count_of_all(counts):
    # Of no rows there is one whole reading, the empty one.
    if counts == []:
        return 1
    return sum(counts[0])


def count_readings(rows, gap):
    return count_of_all(back_counts(rows, gap))


def count_through(rows, gap, place, day):
    if day not in rows[place]:
        return 0
    # The whole readings with the day at the place are those of the rows with the day alone there.
    return count_readings(rows[:place] + [[day]] + rows[place + 1:], gap)


def may_stand(days, place, day, gap):
    """Whether the day can stand at the place behind those of the days that stand ahead of it."""
    if place == 0:
        return True
    ahead = days[place - 1]
    return ahead <= day and day - ahead <= gap


def nth_reading(rows, gap, k):
    counts = back_counts(rows, gap)
    if k < 0 or k >= count_of_all(counts):
        raise NoSuchReading("so many whole readings there are not")
    days = []
    left = k
    for place, row in enumerate(rows):
        for day, count in zip(row, counts[place]):
            if may_stand(days, place, day, gap):
                if left < count:
                    days.append(day)
                    break
                left -= count
    return days


def is_whole_reading(rows, gap, days):
    if len(days) != len(rows):
        return False
    for place, row in enumerate(rows):
        if days[place] not in row or not may_stand(days, place, days[place], gap):
            return False
    return True


def place_of_reading(rows, gap, days):
    if not is_whole_reading(rows, gap, days):
        raise NoSuchReading("these days are no whole reading")
    counts = back_counts(rows, gap)
    ahead = 0
    for place, row in enumerate(rows):
        for day, count in zip(row, counts[place]):
            if day < days[place] and may_stand(days, place, day, gap):
                ahead += count
    return ahead
