"""Points 13.1 to 13.4 and what 13.8 has of them: timetables, delays, what one knows, settled, oldest."""

import itertools
import random

from heardsince.errors import BadVillage, NoPerson
from heardsince.refusals import BadDay, BadTimetable, BadWeek
from heardsince.rounds import falls
from heardsince.timetables import age, delay, first_known, is_timetable, known_day, oldest, settled, slates_in
from heardsince.villages import Village
from tests import helper
from tests.plain_weeks import all_timetables, delay_by_gaps, drawn_timetable, evenings

EXAMPLE = helper.example_village()
DAYS = {("a", "b"): 5, ("b", "c"): 2, ("c", "d"): 3}
ALONE = Village(["a"], [], [1])
TWO = Village(["a", "b"], [("b", "a")], [1, 1])


def small_cases(seed):
    """Small villages with some timetables of weeks as short as can be, and longer ones."""
    drawn = random.Random(seed)
    for village in helper.villages(4) + helper.villages(5)[-12::3] + helper.some_villages(6, 4, seed):
        friends = max(map(len, helper.friends(village).values()))
        for week in {max(1, friends), friends + 1, 5, 7}:
            for _ in range(2 if len(village.people()) > 2 else 1):
                yield village, week, drawn_timetable(village, week, drawn)


def great_cases(seed):
    drawn = random.Random(seed)
    for village in helper.great_villages(seed):
        friends = max(map(len, helper.friends(village).values()))
        for week in (friends, 60, 10 ** 6):
            yield village, week, drawn_timetable(village, week, drawn)


class Timetables(helper.Told):
    """13.1."""

    def test_all_dicts(self):
        for village in helper.villages(4):
            for week in (1, 2, 3):
                right = [repr(days) for days in all_timetables(village, week)]
                for row in itertools.product(range(-1, 4), repeat=len(village.ties())):
                    days = dict(zip(village.ties(), row))
                    self.assertIs(is_timetable(village, week, days), repr(days) in right)
                    self.assertIs(is_timetable(village, week, helper.turned_keys(days)), repr(days) in right)
                    if repr(days) in right:
                        slates = helper.met_rows(village, sorted(days, key=days.get))
                        self.assertTold(slates_in(village, week, days), slates)
                        self.assertTold(slates_in(village, week, helper.turned_keys(days)), slates)

    def test_what_is_no_timetable(self):
        wrong = [thing for thing in helper.any_objects() if thing != {}]
        wrong += [{**DAYS, ("b", "a"): 5}, {("a", "b"): 5, ("b", "a"): 5, ("b", "c"): 2}, {("a", "b"): 5, ("c", "d"): 3},
                  {**DAYS, ("a", "c"): 6}, list(DAYS.items()), {"ab": 5, "bc": 2, "cd": 3}]
        wrong += [{**DAYS, ("a", "b"): day} for day in (2, 7, -1, 10 ** 30, True, False, None, "5", [5], (5,), {})]
        for thing in wrong + [{}]:
            self.assertIs(is_timetable(EXAMPLE, 7, thing), False)
            self.assertRaisesJust(BadTimetable, {"timetable": thing}, slates_in, EXAMPLE, 7, thing)
        for thing in wrong:
            self.assertIs(is_timetable(ALONE, 7, thing), False)

    def test_great_villages(self):
        for village, week, days in great_cases(1301):
            self.assertIs(is_timetable(village, week, days), True)
            slates = helper.met_rows(village, sorted(days, key=days.get))
            self.assertTold(slates_in(village, week, helper.turned_keys(days)), slates)
            person = max(village.people(), key=lambda one: len(slates[one]))
            first, last = [tie for tie in village.ties() if person in tie][:2]
            self.assertIs(is_timetable(village, week, {**days, first: days[last]}), False)
            self.assertIs(is_timetable(village, week, {**days, first: week}), False)


class Delays(helper.Told):
    """13.2."""

    def test_by_gaps_and_falls(self):
        for village, week, days in small_cases(1302):
            slates = slates_in(village, week, days)
            for one, other in itertools.product(village.people(), repeat=2):
                late = delay_by_gaps(village, week, days, one, other)
                self.assertTold(delay(village, week, days, one, other), late)
                way = helper.way(village, other, one)
                if one != other:
                    back = delay(village, week, helper.turned_keys(days), other, one)
                    self.assertEqual(late + back, week * (len(way) - 2))
                    at = {pair: day for tie, day in days.items() for pair in (tie, tie[::-1])}
                    self.assertEqual(late, at[way[-2], way[-1]] - at[way[0], way[1]]
                                     + week * falls(village, slates, one, other))

    def test_great_villages(self):
        for village, week, days in great_cases(1303):
            for one, other in list(itertools.product(village.people(), repeat=2))[::97]:
                self.assertTold(delay(village, week, days, one, other),
                                delay_by_gaps(village, week, days, one, other))


class WhatOneKnows(helper.Told):
    """13.3 and 13.4."""

    def test_evening_by_evening(self):
        for village, week, days in small_cases(1304):
            many = week * (len(village.people()) + 1)
            known = evenings(village, week, days, many)
            firsts, ages = {}, {}
            for one, other in itertools.product(village.people(), repeat=2):
                row = [evening[one].get(other) for evening in known]
                for day in range(many):
                    self.assertTold(known_day(village, week, days, one, other, day), row[day])
                    old = None if row[day] is None else day - row[day]
                    self.assertTold(age(village, week, helper.turned_keys(days), one, other, day), old)
                firsts[one, other] = min(day for day in range(many) if row[day] is not None)
                ages[one, other] = max(day - row[day] for day in range(many) if row[day] is not None)
                self.assertTold(first_known(village, week, days, one, other), firsts[one, other])
            self.assertTold(settled(village, week, days), max(firsts.values()))
            pairs = [pair for pair in ages if pair[0] != pair[1]]
            most = max([ages[pair] for pair in pairs], default=None)
            right = [(most,) + pair for pair in pairs if ages[pair] == most]
            self.assertTold(oldest(village, week, days), right[0] if right else None)

    def test_far_days_of_great_villages(self):
        for village, week, days in great_cases(1305):
            at = {pair: day for tie, day in days.items() for pair in (tie, tie[::-1])}
            firsts, lates = {}, {}
            for one, other in itertools.permutations(village.people(), 2):
                lates[one, other] = delay_by_gaps(village, week, days, one, other)
                firsts[one, other] = at[tuple(helper.way(village, other, one)[:2])] + lates[one, other]
            self.assertTold(settled(village, week, days), max(firsts.values()))
            most = max(lates.values())
            self.assertTold(oldest(village, week, days),
                            [(most + week - 1,) + pair for pair in lates if lates[pair] == most][0])
            for pair in list(lates)[::307]:
                first, late = firsts[pair], lates[pair]
                self.assertTold(first_known(village, week, days, *pair), first)
                if first > 0:
                    self.assertTold(known_day(village, week, days, *pair, first - 1), None)
                    self.assertTold(age(village, week, days, *pair, first - 1), None)
                self.assertTold(age(village, week, days, *pair, first), late)
                for day in (10 ** 20, 10 ** 20 - 12345, first + 1):
                    known = known_day(village, week, days, *pair, day)
                    self.assertEqual((known - first + late) % week, 0)
                    self.assertTrue(day - late - week < known <= day - late)
                    self.assertTold(age(village, week, days, *pair, day), day - known)
                # from the day on which the last door is met ages go up for a week, then fall back
                start = first + week * (10 ** 20 // week)
                self.assertEqual([age(village, week, days, *pair, start + more) for more in (0, 1, week - 1, week)],
                                 [late, late + (1 if week > 1 else 0), late + week - 1, late])

    def test_oneself(self):
        for day in (0, 5, 10 ** 20):
            self.assertTold(known_day(EXAMPLE, 7, DAYS, "b", "b", day), day)
            self.assertTold(age(EXAMPLE, 7, DAYS, "b", "b", day), 0)
        self.assertTold(first_known(EXAMPLE, 7, DAYS, "b", "b"), 0)
        self.assertTold(delay(EXAMPLE, 7, DAYS, "b", "b"), 0)

    def test_one_person_and_two(self):
        for week in (1, 10 ** 6):
            self.assertIs(is_timetable(ALONE, week, {}), True)
            self.assertTold(slates_in(ALONE, week, {}), {"a": []})
            self.assertTold(settled(ALONE, week, {}), 0)
            self.assertTold(oldest(ALONE, week, {}), None)
            self.assertTold(settled(TWO, week, {("a", "b"): week - 1}), week - 1)
            self.assertTold(oldest(TWO, week, {("a", "b"): week - 1}), (week - 1, "a", "b"))
            self.assertTold(first_known(TWO, week, {("a", "b"): week - 1}, "b", "a"), week - 1)
        for day in range(4):
            self.assertTold(known_day(TWO, 1, {("b", "a"): 0}, "a", "b", day), day)
            self.assertTold(age(TWO, 1, {("b", "a"): 0}, "a", "b", day), 0)

    def test_bad_week_and_bad_timetable(self):
        calls = ((is_timetable, ()), (slates_in, ()), (delay, (None, None)), (known_day, (None,) * 3), (age, (None,) * 3),
                 (first_known, (None, None)), (settled, ()), (oldest, ()))
        for function, more in calls:
            for thing in helper.any_objects():
                if not isinstance(thing, Village):
                    self.assertRaisesJust(BadVillage, {"thing": thing}, function, thing, None, None, *more)
                self.assertRaisesJust(BadWeek, {"week": thing}, function, EXAMPLE, thing, None, *more)
                if function is not is_timetable:
                    self.assertRaisesJust(BadTimetable, {"timetable": thing}, function, EXAMPLE, 7, thing, *more)
            self.assertRaisesJust(BadWeek, {"week": 0}, function, ALONE, 0, {}, *more)

    def test_no_person_then_bad_day(self):
        for thing in helper.any_objects():
            for function, more in ((delay, ()), (first_known, ()), (known_day, ("?",)), (age, ("?",))):
                self.assertRaisesJust(NoPerson, {"person": thing}, function, EXAMPLE, 7, DAYS, thing, None, *more)
                self.assertRaisesJust(NoPerson, {"person": thing}, function, EXAMPLE, 7, DAYS, "a", thing, *more)
                if more:
                    for other in ("a", "d"):
                        self.assertRaisesJust(BadDay, {"day": thing}, function, EXAMPLE, 7, DAYS, "a", other, thing)


class Example(helper.Told):
    """13.8, but for what is missed, and gaps."""

    def test_example(self):
        self.assertTold(delay(EXAMPLE, 7, DAYS, "d", "a"), 5)
        self.assertTold(delay(EXAMPLE, 7, DAYS, "a", "d"), 9)
        self.assertTold(known_day(EXAMPLE, 7, DAYS, "d", "a", 9), None)
        for day in range(10, 17):
            self.assertTold(known_day(EXAMPLE, 7, DAYS, "d", "a", day), 5)
        self.assertTold(known_day(EXAMPLE, 7, DAYS, "d", "a", 17), 12)
        self.assertTold(settled(EXAMPLE, 7, DAYS), 12)
        self.assertTold(first_known(EXAMPLE, 7, DAYS, "a", "d"), 12)
        self.assertTold(oldest(EXAMPLE, 7, DAYS), (15, "a", "d"))
