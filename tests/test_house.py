"""Points 1 to 3 and 24 to 30: the house with its entries, its deeds and what it tells."""

import copy
import random
import unittest

from inkdays.bars import barred_by, clash
from inkdays.blots import fewest_blots
from inkdays.chain import earliest, latest, possible_days, witness
from inkdays.counting import count_readings
from inkdays.days import Span
from inkdays.errors import BadForm, BadForms, BadGap, BadPlace, BadText, HouseFull, NoSuchDay, NotPossible, NothingKept
from inkdays.house import House
from inkdays.reading import own_days

HUGE = 10 ** 5000
FORMS = ["<d>[/<m>]", "<w>", "<n>"]
BAD_TEXTS = ("", "3" * 21, "A", "3:4", "<d>", "[3]", "3_4")
ODD_DAYS = (-1, -HUGE, 90, 91, 800, HUGE)


def spring():
    """January, February and March 1905: the days 0 to 30, 31 to 58 and 59 to 89."""
    return Span(1905, 1, 1, 90)


def new_house(gap=40):
    return House(spring(), list(FORMS), gap)


def house_of(texts, gap=40):
    house = new_house(gap)
    for place, text in enumerate(texts):
        house.put(place, text)
    return house


def state(house):
    """All that can be asked of a house, but the number of kept deeds."""
    places = range(house.many())
    days = (-1, 0, 2, 9, 33, 40, 61, 68, 90)
    return copy.deepcopy({
        "span": (house.span.first, house.span.length), "gap": house.gap, "many": house.many(), "rows": house.rows(),
        "entries": [(house.text(place), house.own(place), house.sure_of(place)) for place in places],
        "possible": house.possible(), "count": house.count(), "earliest": house.earliest(), "latest": house.latest(),
        "clash": house.clash(), "blots": house.blots(),
        "witness": [[house.witness(place, day) for day in days] for place in places],
        "barred": [[house.barred(place, day) for day in days] for place in places],
    })


class HouseCase(unittest.TestCase):
    def assert_refused(self, house, error, ask):
        before = (state(house), house.kept())
        with self.assertRaises(error) as caught:
            ask()
        self.assertEqual(caught.exception.__class__, error)
        self.assertEqual((state(house), house.kept()), before)


class Making(unittest.TestCase):
    def assert_refused(self, error, forms, gap):
        with self.assertRaises(error) as caught:
            House(spring(), forms, gap)
        self.assertEqual(caught.exception.__class__, error)

    def test_its_fields(self):
        span = spring()
        for gap in (0, 1, 799, 800):
            house = House(span, ["<d>"], gap)
            self.assertEqual((house.span.first, house.span.length, house.gap), (span.first, 90, gap))

    def test_a_new_house(self):
        house = new_house()
        self.assertEqual((house.many(), house.kept()), (0, 0))
        self.assertEqual((house.rows(), house.possible()), ([], []))
        self.assertEqual((house.count(), house.earliest(), house.latest(), house.clash()), (1, [], [], None))
        self.assertEqual(house.blots(), ([], [], []))

    def test_one_to_six_forms_equal_ones_among_them(self):
        for forms in (["<d>"], ["<d>"] * 6, ["<d>", "<n>", "<d>"]):
            self.assertEqual(House(spring(), forms, 5).put(0, "31"), [30, 89])
        self.assert_refused(BadForms, [], 5)
        self.assert_refused(BadForms, ["<d>"] * 7, 5)
        self.assert_refused(BadForms, ["<d>"] * 60, 5)

    def test_a_bad_form_at_any_place(self):
        for bad in ("", "<d", "<d><d>", "D", "[", "[]", "a" * 31, "<x>"):
            for place in range(3):
                forms = ["<d>", "<n>"]
                forms.insert(place, bad)
                self.assert_refused(BadForm, forms, 5)

    def test_a_bad_gap(self):
        for gap in (-1, -2, -HUGE, 801, 802, HUGE):
            self.assert_refused(BadGap, ["<d>"], gap)

    def test_which_refusal_goes_first(self):
        for gap in (5, -1, 801):
            self.assert_refused(BadForms, [], gap)
            self.assert_refused(BadForms, ["<d>"] * 6 + ["<d"], gap)
            self.assert_refused(BadForms, ["<d>"] * 7, gap)
            self.assert_refused(BadForm, ["<d>", "<d"], gap)


class Put(HouseCase):
    def test_it_tells_the_own_readings(self):
        house = new_house()
        self.assertEqual(house.put(0, "3"), [2, 33, 61])
        self.assertEqual(house.put(1, "03/2"), [33])
        self.assertEqual(house.put(2, "31"), [30, 89])
        self.assertEqual(house.put(3, "mon"), list(range(1, 90, 7)))
        # March, but no Monday: more than one form may take part.
        self.assertEqual(house.put(4, "mar"), list(range(59, 90)))
        self.assertEqual(house.put(5, "m"), sorted(set(range(1, 90, 7)) | set(range(59, 90))))
        self.assertEqual(house.many(), 6)
        self.assertEqual(house.kept(), 6)

    def test_ahead_between_and_behind(self):
        house = new_house()
        house.put(0, "3")
        house.put(0, "1")
        house.put(2, "5")
        house.put(1, "2")
        house.put(3, "4")
        self.assertEqual([house.text(place) for place in range(5)], ["1", "2", "3", "4", "5"])
        self.assertEqual(house.rows(), [[k, k + 31, k + 59] for k in range(5)])

    def test_sure_days_move_with_their_entries(self):
        house = house_of(["3", "10"])
        self.assertEqual(house.tell_sure(0, 33), 2)
        self.assertEqual(house.put(0, "1"), [0, 31, 59])
        self.assertEqual([house.sure_of(place) for place in range(3)], [None, 33, None])
        self.assertEqual(house.rows(), [[0, 31, 59], [33], [9, 40, 68]])
        self.assertEqual(house.count(), 4)
        house.put(2, "4")
        self.assertEqual([house.sure_of(place) for place in range(4)], [None, 33, None, None])
        house.tell_sure(3, 68)
        house.put(3, "20")
        house.put(5, "31")
        self.assertEqual([house.sure_of(place) for place in range(6)], [None, 33, None, None, 68, None])
        self.assertEqual(house.own(1), [2, 33, 61])
        self.assertEqual(house.own(4), [9, 40, 68])

    def test_an_entry_put_in_at_a_sure_ones_place_is_not_sure(self):
        house = house_of(["3"])
        house.tell_sure(0, 33)
        house.put(0, "3")
        self.assertEqual([house.sure_of(0), house.sure_of(1)], [None, 33])
        self.assertEqual(house.rows(), [[2, 33, 61], [33]])

    def test_an_entry_without_a_reading_may_stand(self):
        house = house_of(["3", "10"])
        self.assertEqual(house.put(1, "4/4"), [])
        self.assertEqual(house.put(3, "zzz"), [])
        self.assertEqual(house.rows(), [[2, 33, 61], [], [9, 40, 68], []])
        self.assertEqual(house.own(1), [])
        self.assertEqual(house.text(1), "4/4")
        self.assertEqual(house.possible(), [[], [], [], []])
        self.assertEqual((house.count(), house.earliest(), house.latest(), house.clash()), (0, None, None, (1, 1)))
        self.assertEqual(house.blots()[0], [1, 3])
        self.assertEqual(house.barred(1, 5), (1, 1))
        self.assertEqual(house.barred(0, 2), (0, 1))
        self.assertIsNone(house.witness(0, 2))

    def test_a_bad_place(self):
        for texts in ([], ["3"], ["3", "10", "20"]):
            house = house_of(texts)
            for place in (-1, -2, -HUGE, len(texts) + 1, len(texts) + 2, HUGE):
                self.assert_refused(house, BadPlace, lambda: house.put(place, "3"))

    def test_a_bad_text(self):
        house = house_of(["3", "10"])
        for text in BAD_TEXTS:
            for place in range(3):
                self.assert_refused(house, BadText, lambda: house.put(place, text))
        self.assertEqual(house.put(2, "3" * 20), [])

    def test_sixty_entries_and_one_more(self):
        house = house_of(["3"] * 59)
        self.assertEqual(house.put(30, "10"), [9, 40, 68])
        self.assertEqual(house.many(), 60)
        for place in (0, 30, 59, 60):
            self.assert_refused(house, HouseFull, lambda: house.put(place, "3"))
        self.assertEqual(house.mend(30, "3"), [2, 33, 61])
        self.assert_refused(house, HouseFull, lambda: house.put(0, "3"))
        house.undo()
        house.undo()
        self.assertEqual(house.many(), 59)
        self.assertEqual(house.put(59, "3"), [2, 33, 61])

    def test_which_refusal_goes_first(self):
        house = house_of(["3"] * 59)
        for place in (-1, 60, 61):
            self.assert_refused(house, BadPlace, lambda: house.put(place, ""))
        house.put(0, "3")
        for text in ("3", "", "A"):
            for place in (-1, 61, HUGE):
                self.assert_refused(house, BadPlace, lambda: house.put(place, text))
            for place in (0, 30, 60):
                self.assert_refused(house, HouseFull, lambda: house.put(place, text))


class Mend(HouseCase):
    def test_it_gives_another_text_and_tells_its_own_readings(self):
        house = house_of(["3", "10", "20"])
        self.assertEqual(house.mend(1, "11"), [10, 41, 69])
        self.assertEqual([house.text(place) for place in range(3)], ["3", "11", "20"])
        self.assertEqual(house.rows(), [[2, 33, 61], [10, 41, 69], [19, 50, 78]])
        self.assertEqual(house.mend(0, "zzz"), [])
        self.assertEqual(house.mend(2, "31"), [30, 89])
        self.assertEqual(house.rows(), [[], [10, 41, 69], [30, 89]])
        self.assertEqual((house.many(), house.kept()), (3, 6))

    def test_the_sure_day_is_gone(self):
        house = house_of(["3", "10"])
        house.tell_sure(0, 33)
        house.tell_sure(1, 40)
        self.assertEqual(house.mend(0, "3"), [2, 33, 61])
        self.assertEqual([house.sure_of(0), house.sure_of(1)], [None, 40])
        self.assertEqual(house.rows(), [[2, 33, 61], [40]])
        self.assertEqual(house.count(), 2)

    def test_a_bad_place(self):
        for texts in ([], ["3"], ["3", "10", "20"]):
            house = house_of(texts)
            for place in (-1, -2, -HUGE, len(texts), len(texts) + 1, HUGE):
                for text in ("3", "", "A"):
                    self.assert_refused(house, BadPlace, lambda: house.mend(place, text))

    def test_a_bad_text(self):
        house = house_of(["3", "10"])
        house.tell_sure(1, 40)
        for text in BAD_TEXTS:
            for place in range(2):
                self.assert_refused(house, BadText, lambda: house.mend(place, text))


class TellSure(HouseCase):
    def test_it_tells_how_many_whole_readings_there_are_now(self):
        house = house_of(["3", "10"])
        self.assertEqual(house.count(), 5)
        self.assertEqual(house.tell_sure(0, 33), 2)
        self.assertEqual(house.tell_sure(1, 68), 1)
        self.assertEqual(house.rows(), [[33], [68]])
        self.assertEqual([house.sure_of(0), house.sure_of(1)], [33, 68])
        self.assertEqual([house.own(0), house.own(1)], [[2, 33, 61], [9, 40, 68]])

    def test_a_day_may_be_told_again(self):
        house = house_of(["3", "10"])
        house.tell_sure(0, 33)
        self.assertEqual(house.tell_sure(0, 33), 2)
        self.assertEqual((house.kept(), house.sure_of(0)), (4, 33))
        house.undo()
        self.assertEqual((house.kept(), house.sure_of(0)), (3, 33))
        house.undo()
        self.assertEqual((house.kept(), house.sure_of(0)), (2, None))

    def test_a_day_that_is_not_possible(self):
        house = house_of(["3", "10", "31"])
        # From the 3rd of March no 31st but the last is left, from January the last is too far off.
        self.assertEqual(house.possible(), [[2, 33, 61], [9, 68], [30, 89]])
        for place, day in ((1, 40), (0, 3), (2, 31), (1, 41)):
            self.assert_refused(house, NotPossible, lambda: house.tell_sure(place, day))
        for place in range(3):
            for day in ODD_DAYS:
                self.assert_refused(house, NotPossible, lambda: house.tell_sure(place, day))

    def test_a_sure_entrys_other_days_are_not_possible(self):
        house = house_of(["3", "10"])
        house.tell_sure(0, 33)
        for place, day in ((0, 2), (0, 61), (1, 9)):
            self.assert_refused(house, NotPossible, lambda: house.tell_sure(place, day))
        house.mend(0, "3")
        self.assertEqual(house.tell_sure(0, 2), 2)

    def test_without_a_whole_reading_no_day_is_possible(self):
        house = house_of(["3", "zzz"])
        for day in (2, 33, 61, 0):
            for place in range(2):
                self.assert_refused(house, NotPossible, lambda: house.tell_sure(place, day))
        house = house_of(["3"])
        house.tell_sure(0, 61)
        house.put(1, "1/2")
        self.assert_refused(house, NotPossible, lambda: house.tell_sure(0, 61))
        self.assert_refused(house, NotPossible, lambda: house.tell_sure(1, 31))

    def test_a_bad_place(self):
        for texts in ([], ["3"], ["3", "10"]):
            house = house_of(texts)
            for place in (-1, -2, -HUGE, len(texts), len(texts) + 1, HUGE):
                for day in (2, 9, -1, HUGE):
                    self.assert_refused(house, BadPlace, lambda: house.tell_sure(place, day))

    def test_a_sure_entry_can_turn_out_to_be_a_blot(self):
        house = house_of(["3/2", "3", "4/2"])
        house.tell_sure(1, 33)
        house.mend(0, "5/2")
        house.put(1, "5/2")
        house.mend(3, "6/2")
        self.assertEqual(house.rows(), [[35], [35], [33], [36]])
        self.assertEqual(house.clash(), (1, 2))
        self.assertEqual(house.blots()[0], [2])
        self.assertEqual(house.blots()[1][:2] + house.blots()[1][3:], [35, 35, 36])
        self.assertEqual(house.sure_of(2), 33)

    def test_each_day_of_small_houses(self):
        for gap in (0, 30, 40, 800):
            texts = ["3", "m", "10", "2/2", "20"]
            for place in range(len(texts)):
                house = house_of(texts, gap)
                rows = house.rows()
                possible = possible_days(rows, gap)[place]
                for day in range(-1, 91):
                    if day in possible:
                        told = house.tell_sure(place, day)
                        self.assertEqual(told, count_readings(rows[:place] + [[day]] + rows[place + 1:], gap))
                        house.undo()
                    else:
                        with self.assertRaises(NotPossible):
                            house.tell_sure(place, day)


class Undo(HouseCase):
    def test_each_deed_is_taken_back(self):
        house = new_house()
        deeds = (
            lambda: house.put(0, "3"), lambda: house.put(1, "10"), lambda: house.tell_sure(0, 33),
            lambda: house.put(0, "1"), lambda: house.tell_sure(2, 68), lambda: house.put(2, "4"),
            lambda: house.mend(1, "9"), lambda: house.mend(3, "zzz"), lambda: house.put(1, "zzz"),
        )
        states = []
        for deed in deeds:
            states.append(state(house))
            deed()
        self.assertEqual(house.kept(), 9)
        for left in range(8, -1, -1):
            self.assertEqual(house.undo(), left)
            self.assertEqual(house.kept(), left)
            self.assertEqual(state(house), states.pop())
        self.assert_refused(house, NothingKept, house.undo)

    def test_where_nothing_is_kept(self):
        house = new_house()
        self.assert_refused(house, NothingKept, house.undo)
        self.assert_refused(house, NothingKept, house.undo)
        house.put(0, "3")
        house.undo()
        self.assert_refused(house, NothingKept, house.undo)

    def test_what_is_refused_is_no_deed(self):
        house = house_of(["3"])
        self.assert_refused(house, BadPlace, lambda: house.put(2, "3"))
        self.assert_refused(house, BadText, lambda: house.put(1, ""))
        self.assert_refused(house, BadText, lambda: house.mend(0, ""))
        self.assert_refused(house, NotPossible, lambda: house.tell_sure(0, 3))
        self.assertEqual(house.kept(), 1)
        self.assertEqual(house.undo(), 0)
        self.assertEqual(house.many(), 0)

    def test_an_undo_is_no_deed(self):
        house = house_of(["3", "10"])
        house.undo()
        self.assertEqual(house.kept(), 1)
        house.put(1, "20")
        self.assertEqual(house.kept(), 2)
        house.undo()
        self.assertEqual([house.text(place) for place in range(house.many())], ["3"])
        house.undo()
        self.assertEqual(house.many(), 0)

    def test_a_hundred_deeds_are_kept(self):
        house = house_of(["3"])
        for k in range(99):
            house.mend(0, str(k + 1))
        self.assertEqual(house.kept(), 100)
        for k in range(98, 0, -1):
            self.assertEqual(house.undo(), k + 1)
            self.assertEqual(house.text(0), str(k))
        self.assertEqual((house.undo(), house.text(0)), (1, "3"))
        self.assertEqual((house.undo(), house.many()), (0, 0))
        self.assert_refused(house, NothingKept, house.undo)

    def test_with_a_further_deed_the_oldest_is_let_go(self):
        for many in (101, 102, 130, 250):
            house = house_of(["3"])
            for k in range(1, many):
                house.mend(0, str(k))
                self.assertEqual(house.kept(), min(100, k + 1))
            for left in range(99, -1, -1):
                self.assertEqual(house.undo(), left)
            self.assertEqual(house.text(0), "3" if many == 101 else str(many - 101))
            self.assert_refused(house, NothingKept, house.undo)

    def test_a_deed_taken_back_makes_room(self):
        house = house_of(["3"])
        for k in range(1, 120):
            house.mend(0, str(k))
        for turn in range(5):
            house.undo()
        self.assertEqual((house.kept(), house.text(0)), (95, "114"))
        for k in range(5):
            house.mend(0, "a")
        self.assertEqual(house.kept(), 100)
        for turn in range(100):
            house.undo()
        self.assertEqual(house.text(0), "19")
        self.assert_refused(house, NothingKept, house.undo)


class Telling(HouseCase):
    def test_of_its_entries(self):
        house = house_of(["3", "10", "m", "zzz"])
        self.assertEqual((house.many(), house.kept()), (4, 4))
        self.assertEqual([house.text(place) for place in range(4)], ["3", "10", "m", "zzz"])
        for place in range(4):
            self.assertEqual(house.own(place), own_days(FORMS, house.text(place), spring()))
            self.assertIsNone(house.sure_of(place))
        self.assertEqual(house.rows(), [house.own(place) for place in range(4)])

    def test_the_first_day_of_the_span_may_be_sure(self):
        house = house_of(["1"])
        self.assertEqual(house.tell_sure(0, 0), 1)
        self.assertEqual((house.sure_of(0), house.rows(), house.own(0)), (0, [[0]], [0, 31, 59]))

    def test_a_bad_place(self):
        for texts in ([], ["3"], ["3", "10", "zzz"]):
            house = house_of(texts)
            for place in (-1, -2, -HUGE, len(texts), len(texts) + 1, HUGE):
                self.assert_refused(house, BadPlace, lambda: house.text(place))
                self.assert_refused(house, BadPlace, lambda: house.own(place))
                self.assert_refused(house, BadPlace, lambda: house.sure_of(place))
                for day in (2, -1, HUGE):
                    self.assert_refused(house, BadPlace, lambda: house.witness(place, day))
                    self.assert_refused(house, BadPlace, lambda: house.barred(place, day))

    def test_of_its_rows_by_hand(self):
        house = house_of(["3", "10", "31"])
        self.assertEqual(house.rows(), [[2, 33, 61], [9, 40, 68], [30, 89]])
        self.assertEqual(house.possible(), [[2, 33, 61], [9, 68], [30, 89]])
        # 2 9 30, 33 68 89 and 61 68 89.
        self.assertEqual(house.count(), 3)
        self.assertEqual(house.earliest(), [2, 9, 30])
        self.assertEqual(house.latest(), [61, 68, 89])
        self.assertEqual(house.witness(0, 33), [33, 68, 89])
        self.assertIsNone(house.witness(1, 40))
        self.assertEqual(house.barred(1, 40), (1, 2))
        self.assertIsNone(house.barred(1, 68))
        self.assertEqual(house.barred(1, 41), (1, 1))
        self.assertIsNone(house.clash())
        self.assertEqual(house.blots()[0], [])
        house.put(3, "1/2")
        self.assertEqual(house.clash(), None)
        self.assertEqual(house.latest(), [2, 9, 30, 31])
        house.tell_sure(3, 31)
        house.put(3, "1/3")
        self.assertEqual(house.rows()[2:], [[30, 89], [59], [31]])
        self.assertEqual((house.clash(), house.count(), house.latest()), ((3, 4), 0, None))

    def test_of_a_span_shorter_than_the_gap(self):
        house = House(Span(1905, 1, 30, 4), ["<d>"], 800)
        self.assertEqual(house.put(0, "1"), [2])
        self.assertEqual(house.put(1, "30"), [0])
        places, days, numbers = house.blots()
        self.assertEqual(numbers, [[1, 1, 0, 1], [1, 2, 1, 1]])
        self.assertEqual(len(places), 1)
        self.assertEqual(len(days), 2)

    def test_it_tells_what_the_points_on_rows_tell(self):
        for gap in (0, 7, 40, 800):
            for texts in ([], ["3"], ["3", "m", "10"], ["31", "3", "4", "w"], ["f", "zzz", "m"], ["20", "3/1", "m"]):
                house = house_of(texts, gap)
                rows = [own_days(FORMS, text, spring()) for text in texts]
                self.assertEqual(house.rows(), rows)
                self.assertEqual(house.possible(), possible_days(rows, gap))
                self.assertEqual(house.count(), count_readings(rows, gap))
                self.assertEqual(house.earliest(), earliest(rows, gap))
                self.assertEqual(house.latest(), latest(rows, gap))
                self.assertEqual(house.clash(), clash(rows, gap))
                self.assertEqual(house.blots(), fewest_blots(rows, gap, 90))
                for place in range(len(texts)):
                    for day in list(range(0, 90)) + list(ODD_DAYS):
                        self.assertEqual(house.witness(place, day), witness(rows, gap, place, day))
                        self.assertEqual(house.barred(place, day), barred_by(rows, gap, place, day))

    def test_sixty_entries_of_a_long_span(self):
        house = House(Span(1904, 1, 1, 800), ["<n>", "<w>", "<d>", "[<d> ]<n>[ <Y>]", "<d>/<m>", "<m>/<d>"], 800)
        for k in range(60):
            house.put(k, "m")
        self.assertGreater(house.count(), 10 ** 30)
        rows = house.rows()
        self.assertEqual(house.possible(), rows)
        self.assertEqual(house.tell_sure(59, rows[59][0]), 1)
        self.assertEqual(house.blots()[0], [])
        self.assertEqual([len(numbers) for numbers in house.blots()[2]], [800] * 60)


class PlainHouse:
    """Another house, kept as plainly as can be, to be asked the same things."""

    def __init__(self, span, forms, gap):
        self.span, self.forms, self.gap, self.entries, self.saved = span, list(forms), gap, [], []

    def texts(self):
        return [text for text, own, sure in self.entries]

    def own_readings(self):
        return [own for text, own, sure in self.entries]

    def sure_days(self):
        return [sure for text, own, sure in self.entries]

    def rows(self):
        return [own if sure is None else [sure] for text, own, sure in self.entries]

    def save(self):
        self.saved.append(copy.deepcopy(self.entries))
        while len(self.saved) > 100:
            self.saved.pop(0)

    def put(self, place, text):
        own = own_days(self.forms, text, self.span)
        self.save()
        self.entries.insert(place, (text, own, None))
        return own

    def mend(self, place, text):
        own = own_days(self.forms, text, self.span)
        self.save()
        self.entries[place] = (text, own, None)
        return own

    def tell_sure(self, place, day):
        if day not in possible_days(self.rows(), self.gap)[place]:
            raise NotPossible()
        self.save()
        self.entries[place] = self.entries[place][:2] + (day,)
        return count_readings(self.rows(), self.gap)

    def undo(self):
        if not self.saved:
            raise NothingKept()
        self.entries = self.saved.pop()
        return len(self.saved)


def answer(ask):
    try:
        return ask()
    except (NotPossible, NothingKept, BadText) as refusal:
        return refusal.__class__


class DeedsByLot(unittest.TestCase):
    def random_deed(self, lot, house):
        many = len(house.entries)
        text = lot.choice(("3", "10", "31", "m", "f", "1/2", "20", "zzz", "", "A"))
        deed = lot.choice(("put", "put", "mend", "tell_sure", "tell_sure", "undo"))
        if deed == "undo":
            return deed, ()
        if deed == "put" and many < 8 or many == 0:
            return "put", (lot.randint(0, many), text)
        if deed == "tell_sure":
            place = lot.randrange(many)
            return deed, (place, lot.choice(house.rows()[place] + [5]))
        return "mend", (lot.randrange(many), text)

    def test_two_houses_told_the_same(self):
        lot = random.Random(30)
        for gap in (0, 9, 40, 800):
            house, plain = new_house(gap), PlainHouse(spring(), FORMS, gap)
            for turn in range(260):
                deed, handed = self.random_deed(lot, plain)
                expected = answer(lambda: getattr(plain, deed)(*handed))
                self.assertEqual(answer(lambda: getattr(house, deed)(*handed)), expected, (deed, handed))
                self.assertEqual(house.rows(), plain.rows())
                self.assertEqual([house.sure_of(k) for k in range(house.many())], plain.sure_days())
                self.assertEqual([house.text(k) for k in range(house.many())], plain.texts())
                self.assertEqual([house.own(k) for k in range(house.many())], plain.own_readings())
                self.assertEqual(house.kept(), len(plain.saved))


def change(told):
    """Changes every list that was told, the lists within it too."""
    if isinstance(told, (list, tuple)):
        for inner in told:
            change(inner)
    if isinstance(told, list):
        told.append(77)
        told[0] = -9


class WhatHoldsThroughout(HouseCase):
    def asked_of(self, house):
        return (
            house.rows, house.possible, house.earliest, house.latest, house.blots, house.clash,
            lambda: house.own(0), lambda: house.own(1), lambda: house.own(2), lambda: house.witness(0, 33),
            lambda: house.witness(1, 40),
        )

    def houses(self):
        sure = house_of(["3", "10", "m"])
        sure.tell_sure(0, 33)
        return [house_of(["3", "10", "m"]), sure, house_of(["3", "zzz", "2/1"]), house_of(["1", "1", "1"], 0)]

    def test_lists_told_are_changed_and_asked_again(self):
        for house in self.houses():
            before = (state(house), house.kept())
            for ask in self.asked_of(house):
                told = ask()
                kept = copy.deepcopy(told)
                change(told)
                self.assertEqual(ask(), kept)
                self.assertEqual((state(house), house.kept()), before)

    def test_lists_told_by_deeds_are_changed(self):
        house = new_house()
        change(house.put(0, "3"))
        change(house.put(1, "10"))
        change(house.mend(0, "4"))
        change(house.put(0, "zzz"))
        change(house.mend(0, "m"))
        self.assertEqual(house.own(1), [3, 34, 62])
        self.assertEqual(house.own(2), [9, 40, 68])
        self.assertEqual(house.own(0), own_days(FORMS, "m", spring()))
        self.assertEqual(house.rows(), [house.own(place) for place in range(3)])

    def test_lists_told_are_changed_ahead_of_an_undo(self):
        house = house_of(["3", "10"])
        before = state(house)
        change(house.rows())
        change(house.own(0))
        house.tell_sure(0, 33)
        change(house.rows())
        change(house.own(0))
        change(house.mend(1, "11"))
        house.undo()
        house.undo()
        self.assertEqual(state(house), before)

    def test_whoever_asks_changes_nothing(self):
        for house in self.houses():
            before = (state(house), house.kept())
            for ask in self.asked_of(house):
                ask()
            self.assertEqual((state(house), house.kept()), before)

    def test_the_forms_handed_in_stay_as_they_are_and_may_be_changed_later(self):
        forms = list(FORMS)
        house = House(spring(), forms, 40)
        house.put(0, "3")
        house.tell_sure(0, 33)
        house.mend(0, "4")
        house.undo()
        self.assertEqual(forms, FORMS)
        forms[0] = "<Y>"
        forms.append("<<")
        self.assertEqual(house.put(1, "10"), [9, 40, 68])
        forms.clear()
        self.assertEqual(house.mend(1, "m"), own_days(FORMS, "m", spring()))

    def test_refused_forms_stay_as_they_are(self):
        for forms, gap in (([], 5), (["<d>"] * 7, 5), (["<d>", "<"], 5), (["<d>"], -1)):
            before = list(forms)
            with self.assertRaises((BadForms, BadForm, BadGap)):
                House(spring(), forms, gap)
            self.assertEqual(forms, before)

    def test_two_houses_made_alike_are_apart(self):
        span, forms = spring(), list(FORMS)
        one, other = House(span, forms, 40), House(span, forms, 40)
        self.assertNotEqual(id(one), id(other))
        one.put(0, "3")
        one.put(1, "10")
        self.assertEqual((other.many(), other.kept(), other.rows(), other.count()), (0, 0, [], 1))
        other.put(0, "3")
        other.put(1, "10")
        before = (state(other), other.kept())
        self.assertEqual((state(one), one.kept()), before)
        one.tell_sure(0, 33)
        one.mend(1, "11")
        one.undo()
        one.put(0, "zzz")
        for ask in self.asked_of(one):
            change(ask())
        self.assertEqual((state(other), other.kept()), before)
        other.undo()
        self.assertEqual((one.many(), one.kept(), other.many(), other.kept()), (3, 4, 1, 1))

    def test_the_span_handed_in_stays_as_it_is(self):
        span = spring()
        house = House(span, FORMS, 40)
        house.put(0, "3")
        house.blots()
        self.assertEqual((span.first, span.length), (spring().first, 90))
        with self.assertRaises(NoSuchDay):
            house.span.date_at(90)
        self.assertEqual(house.span.date_at(33), (1905, 2, 3))


if __name__ == "__main__":
    unittest.main()
