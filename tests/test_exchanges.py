"""Points 9.1, 9.2 and what 9.7 has of them: exchanges in a calendar, shortest rows of calendars."""

import itertools
import random

from heardsince.errors import BadCalendar, BadPlace, BadVillage
from heardsince.exchanges import distance, exchange_row, exchanged, shared_at, unlike_meetings
from heardsince.villages import Village
from tests import helper

EXAMPLE = helper.example_village()
CALENDAR = helper.EXAMPLE_CALENDAR
ABOUT = [("c", "d"), ("a", "b"), ("b", "c")]
ALONE = Village(["a"], [], [1])
TWO = Village(["a", "b"], [("b", "a")], [1, 1])


class OfACalendar(helper.Told):
    """9.1: a meeting and the next one change places."""

    def test_all_calendars(self):
        for village in helper.villages(4) + helper.some_villages(5, 5, 901):
            for calendar in helper.all_calendars(village):
                slates = helper.met_rows(village, calendar)
                for place in range(len(calendar) - 1):
                    right = list(calendar)
                    right[place], right[place + 1] = right[place + 1], right[place]
                    self.assertTold(exchanged(village, calendar, place), right)
                    self.assertTold(exchanged(village, [list(meeting)[::-1] for meeting in calendar], place), right)
                    both = [one for one in calendar[place] if one in calendar[place + 1]]
                    self.assertTold(shared_at(village, calendar, place), both[0] if both else None)
                    behind = helper.met_rows(village, right)
                    self.assertEqual([one for one in slates if slates[one] != behind[one]], both)

    def test_bad_place(self):
        for function in (exchanged, shared_at):
            for thing in helper.any_objects() + [2, 3, 10 ** 30]:
                self.assertRaisesJust(BadPlace, {"place": thing}, function, EXAMPLE, CALENDAR, thing)
                self.assertRaisesJust(BadPlace, {"place": thing}, function, TWO, [["a", "b"]], thing)
            for place in (0, 1):
                self.assertRaisesJust(BadPlace, {"place": place}, function, TWO, (("a", "b"),), place)
                self.assertRaisesJust(BadPlace, {"place": place}, function, ALONE, [], place)

    def test_errors_in_order(self):
        for function in (exchanged, shared_at):
            for thing in helper.any_objects():
                if not isinstance(thing, Village):
                    self.assertRaisesJust(BadVillage, {"thing": thing}, function, thing, None, None)
                self.assertRaisesJust(BadCalendar, {"calendar": thing}, function, EXAMPLE, thing, None)


class RowsOfCalendars(helper.Told):
    """9.2: unlike pairs of meetings, and rows as short as can be."""

    def right_row(self, village, one, other, row):
        self.assertIsInstance(row, list)
        self.assertTold(row[0], one)
        self.assertTold(row[-1], other)
        for ahead, behind in zip(row, row[1:]):
            self.assertIn(repr(behind), [repr(calendar) for calendar in helper.exchanges_of(ahead)])
        self.assertEqual(len({id(calendar) for calendar in row}), len(row))

    def test_all_pairs_of_calendars(self):
        for village in helper.villages(4)[::2] + helper.some_villages(5, 3, 902):
            for one in helper.all_calendars(village):
                far = helper.steps_from(one, helper.exchanges_of)
                for other in helper.all_calendars(village):
                    unlike = [(x, y) for x, y in itertools.combinations(one, 2) if other.index(x) > other.index(y)]
                    self.assertTold(unlike_meetings(village, one, other), unlike)
                    self.assertTold(distance(village, one, other), far[repr(other)])
                    self.assertEqual(len(unlike), far[repr(other)])
                    row = exchange_row(village, one, other)
                    self.right_row(village, one, other, row)
                    self.assertEqual(len(row), far[repr(other)] + 1)
                    if helper.met_rows(village, one) == helper.met_rows(village, other):
                        for calendar in row:
                            self.assertEqual(helper.met_rows(village, calendar), helper.met_rows(village, one))

    def test_one_person_and_two(self):
        for village, calendar in ((ALONE, []), (TWO, [("b", "a")])):
            about = [meeting[::-1] for meeting in calendar]
            self.assertTold(unlike_meetings(village, calendar, about), [])
            self.assertTold(exchange_row(village, about, calendar), [calendar])
            self.assertTold(distance(village, calendar, about), 0)

    def test_sixty_people(self):
        for seed, village in enumerate(helper.great_villages(903)):
            drawn = random.Random(seed)
            one = village.ties()
            drawn.shuffle(one)
            self.assertTold(distance(village, one, one[::-1]), 59 * 58 // 2)
            self.assertTold(unlike_meetings(village, one, one[::-1]), list(itertools.combinations(one, 2)))
            other = list(one)
            for _ in range(380):
                place = drawn.randrange(58)
                other[place], other[place + 1] = other[place + 1], other[place]
            row = exchange_row(village, tuple(meeting[::-1] for meeting in one), other)
            self.right_row(village, one, other, row)
            self.assertTold(distance(village, one, other), len(row) - 1)
            self.assertEqual(len(row) - 1, len(unlike_meetings(village, one, other)))

    def test_equal_answers_whatever_way_round(self):
        about = [list(meeting)[::-1] for meeting in CALENDAR]
        for other in (ABOUT, [meeting[::-1] for meeting in ABOUT], tuple(list(meeting) for meeting in ABOUT)):
            self.assertTold(exchange_row(EXAMPLE, about, other), exchange_row(EXAMPLE, CALENDAR, ABOUT))

    def test_bad_calendar_of_one_then_of_other(self):
        for function in (unlike_meetings, exchange_row, distance):
            for thing in helper.any_objects() + [CALENDAR[:2], CALENDAR + CALENDAR[:1], [("a", "b")] * 3]:
                if not isinstance(thing, Village):
                    self.assertRaisesJust(BadVillage, {"thing": thing}, function, thing, None, None)
                self.assertRaisesJust(BadCalendar, {"calendar": thing}, function, EXAMPLE, thing, None)
                self.assertRaisesJust(BadCalendar, {"calendar": thing}, function, EXAMPLE, CALENDAR, thing)


class Example(helper.Told):
    """9.7, what it has of calendars."""

    def test_example(self):
        self.assertTold(distance(EXAMPLE, CALENDAR, ABOUT), 3)
        self.assertTold(shared_at(EXAMPLE, CALENDAR, 1), None)
        self.assertTold(shared_at(EXAMPLE, CALENDAR, 0), "b")
        self.assertTold(exchanged(EXAMPLE, CALENDAR, 0), [("a", "b"), ("b", "c"), ("c", "d")])
        self.assertTold(unlike_meetings(EXAMPLE, CALENDAR, ABOUT),
                        [(("b", "c"), ("a", "b")), (("b", "c"), ("c", "d")), (("a", "b"), ("c", "d"))])
