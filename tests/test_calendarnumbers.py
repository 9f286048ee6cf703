"""Points 8.5 to 8.7: calendars with told slates in order, begun ones, drawn ones."""

import itertools
import random

from heardsince.calendarcounts import count_calendars
from heardsince.calendarnumbers import (calendar_at, calendar_number, count_begun, drawn_calendar, last_calendar,
                                        next_calendar, next_meetings)
from heardsince.calendars import calendar_of
from heardsince.errors import BadCalendar, BadChooser, BadNumber, BadSlates, BadStart, BadVillage
from heardsince.villages import Village
from tests import helper
from tests.test_calendarcounts import alike_calendars

EXAMPLE = helper.example_village()
SLATES = helper.EXAMPLE_SLATES
CALENDAR = helper.EXAMPLE_CALENDAR
ALONE = Village(["a"], [], [1])


def thirty():
    return [helper.row_village(30), helper.star_village(30)] + helper.some_villages(30, 3, 91)


class InOrder(helper.Told):
    """8.5: calendars by numbers."""

    def test_all_calendars(self):
        for village in helper.villages(4) + helper.villages(5)[-50:] + helper.some_villages(6, 4, 92):
            for slates, calendars in alike_calendars(village):
                places = [[village.ties().index(tie) for tie in calendar] for calendar in calendars]
                self.assertEqual(places, sorted(places))
                for number, calendar in enumerate(calendars):
                    self.assertTold(calendar_at(village, slates, number), calendar)
                    self.assertTold(calendar_number(village, [list(tie[::-1]) for tie in calendar]), number)
                    self.assertTold(next_calendar(village, tuple(calendar)), (calendars + [None])[number + 1])
                self.assertTold(last_calendar(village, slates), calendars[-1])
                self.assertTold(calendar_of(village, slates), calendar_at(village, slates, 0))
                many = len(calendars)
                self.assertRaisesJust(BadNumber, {"number": many}, calendar_at, village, slates, many)

    def test_seven_people(self):
        for village in [helper.row_village(7)] + helper.some_villages(7, 1, 93):
            for slates, calendars in alike_calendars(village):
                for number in range(0, len(calendars), 1 + len(calendars) // 3):
                    self.assertTold(calendar_at(village, slates, number), calendars[number])
                    self.assertTold(calendar_number(village, calendars[number]), number)
                    self.assertTold(next_calendar(village, calendars[number]), (calendars + [None])[number + 1])
                self.assertTold(last_calendar(village, slates), calendars[-1])

    def test_one_person_and_two(self):
        two = Village(["a", "b"], [("b", "a")], [1, 1])
        for village, slates, calendar in ((ALONE, {"a": []}, []), (two, {"a": ["b"], "b": ["a"]}, [("b", "a")])):
            self.assertTold(calendar_at(village, slates, 0), calendar)
            self.assertTold(calendar_number(village, calendar), 0)
            self.assertTold(next_calendar(village, calendar), None)
            self.assertTold(last_calendar(village, slates), calendar)
            self.assertTold(drawn_calendar(village, slates, lambda many: many - 1), calendar)
            self.assertTold(count_begun(village, slates, []), 1)
            self.assertTold(count_begun(village, slates, [tie[::-1] for tie in calendar]), 1)
            self.assertTold(next_meetings(village, slates, ()), calendar)
            self.assertTold(next_meetings(village, slates, calendar), [])

    def test_thirty_people(self):
        for seed, village in enumerate(thirty()):
            slates = helper.drawn_slates(village, seed)
            count = count_calendars(village, slates)
            drawn = random.Random(seed)
            for number in {0, count - 1, count // 2, drawn.randrange(count), drawn.randrange(count)}:
                calendar = calendar_at(village, slates, number)
                self.assertEqual(helper.met_rows(village, calendar), slates)
                self.assertTold(calendar_number(village, calendar), number)
                following = next_calendar(village, calendar)
                right = calendar_at(village, slates, number + 1) if number + 1 < count else None
                self.assertTold(following, right)
            self.assertTold(calendar_at(village, slates, 0), calendar_of(village, slates))
            self.assertTold(calendar_at(village, slates, count - 1), last_calendar(village, slates))
            for wrong in (count, count + 1, 10 ** 100, -1):
                self.assertRaisesJust(BadNumber, {"number": wrong}, calendar_at, village, slates, wrong)

    def test_last_calendar_of_sixty(self):
        for seed, village in enumerate([helper.row_village(60), helper.star_village(60)]
                                       + helper.some_villages(60, 3, 94)):
            slates = helper.drawn_slates(village, seed)
            calendar = last_calendar(village, slates)
            self.assertEqual(helper.met_rows(village, calendar), slates)
            self.assertTold(next_calendar(village, calendar), None)
            held = []
            for meeting in calendar:
                ready = [tie for tie in village.ties() if can_come(slates, held, tie)]
                self.assertEqual(meeting, ready[-1])
                held.append(meeting)

    def test_bad_number(self):
        for thing in helper.any_objects() + [2, 10 ** 30, True, False, "0", [0], None, -1]:
            self.assertRaisesJust(BadNumber, {"number": thing}, calendar_at, EXAMPLE, SLATES, thing)


def can_come(slates, held, tie):
    """Whether a meeting that was not held comes next in both slates."""
    met = [frozenset(meeting) for meeting in held]
    return frozenset(tie) not in met and all(
        frozenset((person, friend)) in met
        for person, last in (tie, tie[::-1]) for friend in slates[person][:slates[person].index(last)])


class Begun(helper.Told):
    """8.6: begun calendars."""

    def test_all_begins(self):
        for village in helper.villages(4) + helper.villages(5)[-30:] + helper.some_villages(6, 2, 95):
            for slates, calendars in alike_calendars(village)[::2]:
                starts = {repr(calendar[:many]): calendar[:many] for calendar in calendars
                          for many in range(len(calendar) + 1)}
                for start in starts.values():
                    right = [calendar for calendar in calendars if calendar[:len(start)] == start]
                    passed = [list(tie[::-1]) for tie in start]
                    self.assertTold(count_begun(village, slates, passed), len(right))
                    self.assertTold(count_begun(village, slates, tuple(start)), len(right))
                    following = [tie for tie in village.ties()
                                 if any(calendar[len(start):][:1] == [tie] for calendar in right)]
                    self.assertTold(next_meetings(village, slates, passed), following)

    def test_all_rows_of_meetings(self):
        for village in helper.villages(4)[3:]:
            ties = village.ties()
            for slates, calendars in alike_calendars(village):
                for many in range(1, len(ties) + 2):
                    for row in itertools.product(ties, repeat=many):
                        rights = [begun for begun in range(many + 1)
                                  if any(calendar[:begun] == list(row[:begun]) for calendar in calendars)]
                        for function in (count_begun, next_meetings):
                            if rights[-1] == many:
                                function(village, slates, row)
                            else:
                                self.assertRaisesJust(BadStart, {"index": rights[-1]}, function, village, slates, row)

    def test_thirty_people(self):
        for seed, village in enumerate(thirty()):
            slates = helper.drawn_slates(village, seed)
            count = count_calendars(village, slates)
            calendar = calendar_at(village, slates, count // 3)
            many = count
            for begun in range(len(calendar) + 1):
                start = calendar[:begun]
                self.assertTold(count_begun(village, slates, start), many)
                following = next_meetings(village, slates, start)
                self.assertTold(following, [tie for tie in village.ties() if can_come(slates, start, tie)])
                if begun < len(calendar):
                    counts = [count_begun(village, slates, start + [tie]) for tie in following]
                    self.assertEqual(sum(counts), many)
                    many = counts[following.index(calendar[begun])]
            self.assertEqual(many, 1)

    def test_bad_start(self):
        for function in (count_begun, next_meetings):
            for thing in helper.any_objects():
                if not isinstance(thing, (list, tuple)):
                    self.assertRaisesJust(BadStart, {"index": 0}, function, EXAMPLE, SLATES, thing)
                self.assertRaisesJust(BadStart, {"index": 0}, function, EXAMPLE, SLATES, [thing])
                self.assertRaisesJust(BadStart, {"index": 2}, function, EXAMPLE, SLATES,
                                      (("c", "b"), ["a", "b"], thing, thing))
                self.assertRaisesJust(BadStart, {"index": 1}, function, EXAMPLE, SLATES, [("b", "c"), ("a", thing)])
                self.assertRaisesJust(BadStart, {"index": 0}, function, ALONE, {"a": []}, [thing])
            for index, start in ((0, [("a", "b")]), (1, [("b", "c"), ("c", "b")]), (0, [("c", "d"), ("b", "c")]),
                                 (3, [("b", "c"), ("c", "d"), ("b", "a"), ("a", "b")]), (0, [("a", "c")]),
                                 (1, [("b", "c"), ("b", "b")]), (0, "ab"), (0, ("b", "c")), (0, {("b", "c"): 1}),
                                 (2, [("b", "c"), ("a", "b"), ("b", "c"), None])):
                self.assertRaisesJust(BadStart, {"index": index}, function, EXAMPLE, SLATES, start)


class Drawn(helper.Told):
    """8.6: drawn calendars."""

    def test_each_number(self):
        for village in helper.villages(4)[3:] + helper.some_villages(6, 2, 96):
            for slates, calendars in alike_calendars(village):
                for number, calendar in enumerate(calendars):
                    asked = []
                    told = drawn_calendar(village, slates, lambda many: asked.append(many) or number)
                    self.assertTold(told, calendar)
                    self.assertTold(asked, [len(calendars)])

    def test_what_choosers_raise_comes_out(self):
        for error in (KeyError("a"), ValueError(), BadNumber(3), StopIteration()):
            def chooser(many):
                raise error
            with self.assertRaises(type(error)) as caught:
                drawn_calendar(EXAMPLE, SLATES, chooser)
            self.assertIs(caught.exception, error)

    def test_bad_number(self):
        for thing in helper.any_objects() + [2, 10 ** 30, True, False, "0", [0], None, -1]:
            self.assertRaisesJust(BadNumber, {"number": thing}, drawn_calendar, EXAMPLE, SLATES, lambda many: thing)

    def test_bad_chooser(self):
        for thing in helper.no_functions() + [0, 1, "a", b"".decode()]:
            self.assertRaisesJust(BadChooser, {"thing": thing}, drawn_calendar, EXAMPLE, SLATES, thing)

    def test_all_that_can_be_called(self):
        class Chooser:
            def choose(self, many):
                return many - 1

            def __call__(self, many):
                return 0

        self.assertTold(drawn_calendar(EXAMPLE, SLATES, Chooser().choose), [("b", "c"), ("c", "d"), ("a", "b")])
        self.assertTold(drawn_calendar(EXAMPLE, SLATES, Chooser()), CALENDAR)
        self.assertRaisesJust(BadNumber, {"number": 2}, drawn_calendar, EXAMPLE, SLATES, int)

    def test_a_chooser_that_changes_the_slates(self):
        slates = {person: list(slate) for person, slate in SLATES.items()}

        def chooser(many):
            slates["b"].reverse()
            slates.pop("a")
            return 1

        self.assertTold(drawn_calendar(EXAMPLE, slates, chooser), [("b", "c"), ("c", "d"), ("a", "b")])


class Example(helper.Told):
    """8.7, the end, number by number."""

    def test_example(self):
        self.assertTold(calendar_at(EXAMPLE, SLATES, 1), [("b", "c"), ("c", "d"), ("a", "b")])
        self.assertTold(calendar_at(EXAMPLE, SLATES, 0), CALENDAR)
        self.assertTold(next_meetings(EXAMPLE, SLATES, [("c", "b")]), [("a", "b"), ("c", "d")])
        self.assertTold(next_calendar(EXAMPLE, CALENDAR), [("b", "c"), ("c", "d"), ("a", "b")])


class Errors(helper.Told):
    """Which errors are due, and which go first."""

    def test_bad_village_and_bad_slates(self):
        calls = [(calendar_at, (None,)), (last_calendar, ()), (count_begun, (None,)), (next_meetings, (None,)),
                 (drawn_calendar, (None,))]
        for thing in helper.any_objects():
            for function, more in calls:
                if not isinstance(thing, Village):
                    self.assertRaisesJust(BadVillage, {"thing": thing}, function, thing, None, *more)
                self.assertRaisesJust(BadSlates, {"slates": thing}, function, EXAMPLE, thing, *more)

    def test_bad_calendar(self):
        wrong = helper.any_objects() + [CALENDAR[:2], CALENDAR + CALENDAR[:1], CALENDAR[:2] + [("a", "d")]]
        for thing in wrong:
            for function in (calendar_number, next_calendar):
                if not isinstance(thing, Village):
                    self.assertRaisesJust(BadVillage, {"thing": thing}, function, thing, None)
                self.assertRaisesJust(BadCalendar, {"calendar": thing}, function, EXAMPLE, thing)
