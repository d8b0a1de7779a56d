"""The house: entries in the order in which they were written, with the deeds that can be taken back."""

from inkdays.bars import barred_by, clash
from inkdays.blots import fewest_blots
from inkdays.chain import earliest, latest, possible_days, witness
from inkdays.counting import count_readings
from inkdays.errors import BadGap, BadPlace, HouseFull, NotPossible, NothingKept
from inkdays.reading import days_of_text, parts_of_forms

WIDEST_GAP = 800
MOST_ENTRIES = 60
MOST_DEEDS = 100


class Entry:
    # An entry is never changed once it is made: the earlier states that a house keeps hold it too.
    def __init__(self, written, readings, sure):
        self.written = written
        self.readings = readings
        self.sure = sure

    def row(self):
        if self.sure is None:
            return list(self.readings)
        return [self.sure]


class House:
    def __init__(self, span, forms, gap):
        # The forms are read ahead of the gap: their refusals go first.
        forms_in_parts = parts_of_forms(forms)
        if gap < 0 or gap > WIDEST_GAP:
            raise BadGap("a gap is from 0 to 800")
        self.span = span
        self.gap = gap
        self.forms_in_parts = forms_in_parts
        self.entries = []
        self.past = []

    def check_place(self, place):
        if place < 0 or place >= len(self.entries):
            raise BadPlace("no entry stands at this place")

    def entry_at(self, place):
        self.check_place(place)
        return self.entries[place]

    def read_text(self, text):
        return Entry(text, days_of_text(self.forms_in_parts, text, self.span), None)

    def do_deed(self, entries):
        # Each deed brings a new list of entries, so the one ahead of it can be kept as it is.
        self.past = (self.past + [self.entries])[-MOST_DEEDS:]
        self.entries = entries

    def put(self, place, text):
        if place < 0 or place > len(self.entries):
            raise BadPlace("no entry can be put in at this place")
        if len(self.entries) >= MOST_ENTRIES:
            raise HouseFull("a house has at most 60 entries")
        entry = self.read_text(text)
        self.do_deed(self.entries[:place] + [entry] + self.entries[place:])
        return list(entry.readings)

    def with_entry(self, place, entry):
        return self.entries[:place] + [entry] + self.entries[place + 1:]

    def mend(self, place, text):
        self.check_place(place)
        entry = self.read_text(text)
        self.do_deed(self.with_entry(place, entry))
        return list(entry.readings)

    def tell_sure(self, place, day):
        entry = self.entry_at(place)
        if day not in self.possible()[place]:
            raise NotPossible("this day is not possible at this place")
        self.do_deed(self.with_entry(place, Entry(entry.written, entry.readings, day)))
        return self.count()

    def undo(self):
        if self.past == []:
            raise NothingKept("no deed is kept")
        self.entries = self.past[-1]
        self.past = self.past[:-1]
        return len(self.past)

    def many(self):
        return len(self.entries)

    def kept(self):
        return len(self.past)

    def text(self, place):
        return self.entry_at(place).written

    def own(self, place):
        return list(self.entry_at(place).readings)

    def sure_of(self, place):
        return self.entry_at(place).sure

    def rows(self):
        return [entry.row() for entry in self.entries]

    def possible(self):
        return possible_days(self.rows(), self.gap)

    def witness(self, place, day):
        self.check_place(place)
        return witness(self.rows(), self.gap, place, day)

    def barred(self, place, day):
        self.check_place(place)
        return barred_by(self.rows(), self.gap, place, day)

    def count(self):
        return count_readings(self.rows(), self.gap)

    def earliest(self):
        return earliest(self.rows(), self.gap)

    def latest(self):
        return latest(self.rows(), self.gap)

    def clash(self):
        return clash(self.rows(), self.gap)

    def blots(self):
        return fewest_blots(self.rows(), self.gap, self.span.length)
