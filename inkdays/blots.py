"""The fewest rows that must be taken as blots so that all rows can be read together."""


def own_blots(row, length):
    """For each day of the span 0 where the row has it, else 1: the row must then be a blot."""
    own = {}
    for day in row:
        own[day] = True
    return [0 if day in own else 1 for day in range(length)]


def best_ahead(numbers, gap):
    """For each day that day with the least number from which it is no earlier and at most the gap later."""
    told = []
    # Of the days within the gap only those are kept that no later day equals or betters:
    # their numbers rise, so the first of them is the best.
    kept = []
    start = 0
    for day, number in enumerate(numbers):
        while len(kept) > start and numbers[kept[-1]] >= number:
            kept.pop()
        kept.append(day)
        if day - kept[start] > gap:
            start += 1
        told.append(kept[start])
    return told


def numbers_behind(ahead, row, gap):
    """The numbers of a row, from those of the row ahead of it."""
    own = own_blots(row, len(ahead))
    return [ahead[best] + blot for best, blot in zip(best_ahead(ahead, gap), own)]


def fewest_numbers(rows, gap, length):
    told = []
    for row in rows:
        if told == []:
            told.append(own_blots(row, length))
        else:
            told.append(numbers_behind(told[-1], row, gap))
    return told


def days_with_fewest(numbers, gap):
    """A reading with the fewest blots, found from the last row to the first."""
    days = []
    for row_numbers in reversed(numbers):
        if days == []:
            day = row_numbers.index(min(row_numbers))
        else:
            day = best_ahead(row_numbers, gap)[days[-1]]
        days.append(day)
    days.reverse()
    return days


def fewest_blots(rows, gap, length):
    numbers = fewest_numbers(rows, gap, length)
    days = days_with_fewest(numbers, gap)
    places = [place for place, row in enumerate(rows) if days[place] not in row]
    return (places, days, numbers)
