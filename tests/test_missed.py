"""Point 13.5: missed meetings, and how much older they make what is known."""

import itertools
import random

from heardsince.errors import BadMany, BadVillage, NoPerson
from heardsince.missed import known_by_missed, missed_for
from heardsince.refusals import BadDay, BadMissed, BadTimetable, BadWeek
from heardsince.timetables import age, known_day
from heardsince.villages import Village
from tests import helper
from tests.plain_weeks import drawn_timetable, evenings
from tests.test_timetables import great_cases, small_cases

EXAMPLE = helper.example_village()
DAYS = {("a", "b"): 5, ("b", "c"): 2, ("c", "d"): 3}
ALONE = Village(["a"], [], [1])
TWO = Village(["a", "b"], [("b", "a")], [1, 1])


class Missed(helper.Told):

    def test_evening_by_evening(self):
        drawn = random.Random(1306)
        for village, week, days in list(small_cases(1307))[::3]:
            weeks = len(village.people()) + 2
            every = list(itertools.product(village.ties(), range(weeks)))
            for most in (0, 2, 8):
                missed = drawn.sample(every, min(most, len(every)))
                known = evenings(village, week, days, week * weeks, missed)
                about = tuple([list(tie[::-1]), number] for tie, number in missed)
                for one, other in itertools.product(village.people(), repeat=2):
                    for day in range(0, week * weeks, 1 + week // 3):
                        right = known[day][one].get(other)
                        self.assertTold(known_by_missed(village, week, days, missed, one, other, day), right)
                        self.assertTold(known_by_missed(village, week, helper.turned_keys(days), about, one, other, day),
                                        right)
                        if right is not None:
                            older = known_day(village, week, days, one, other, day) - right
                            self.assertTrue(0 <= older <= week * len(missed))

    def test_missed_for_on_all_days(self):
        for village, week, days in list(small_cases(1308))[::3]:
            for one, other in itertools.product(village.people(), repeat=2):
                for day in range(one < other, week * (len(village.people()) + 2), 2 + week // 2):
                    old = age(village, week, days, one, other, day)
                    for many in range(5):
                        self.right_missed(village, week, days, one, other, day, many, old)

    def right_missed(self, village, week, days, one, other, day, many, old):
        told = missed_for(village, week, days, one, other, day, many)
        if old is None or (many > 0 and one == other):
            self.assertTold(told, None)
        elif many == 0:
            self.assertTold(told, [])
        elif day - old - many * week < 0:
            self.assertTold(told, None)
        else:
            self.assertEqual(len(told), many)
            self.assertEqual(len(set(told)), many)
            self.assertTrue(all(tie in village.ties() and number >= 0 for tie, number in told))
            self.assertEqual(known_by_missed(village, week, days, told, one, other, day), day - old - many * week)

    def test_none_where_no_lot_of_missed_ones_would_do(self):
        drawn = random.Random(1309)
        for village in helper.villages(3) + [helper.row_village(4), helper.star_village(4)]:
            week = 3
            days = drawn_timetable(village, week, drawn)
            for day in range(0, 4 * week, 2):
                every = list(itertools.product(village.ties(), range(day // week + 1)))
                for many in (1, 2):
                    for one, other in itertools.product(village.people(), repeat=2):
                        old = age(village, week, days, one, other, day)
                        older = [known_by_missed(village, week, days, lot, one, other, day)
                                 for lot in itertools.combinations(every, many)]
                        some = old is not None and day - old - many * week in older
                        self.assertIs(missed_for(village, week, days, one, other, day, many) is not None, some)

    def test_far_days_of_great_villages(self):
        drawn = random.Random(1310)
        for village, week, days in great_cases(1311):
            people = village.people()
            for _ in range(12):
                one, other = drawn.sample(people, 2)
                day = 10 ** 20 - drawn.randrange(week)
                known = known_day(village, week, days, one, other, day)
                self.assertTold(known_by_missed(village, week, days, [], one, other, day), known)
                for many in (0, 1, 7, 40):
                    self.right_missed(village, week, days, one, other, day, many,
                                      age(village, week, days, one, other, day))
                # the same week of all on the way, and the weeks ahead of it
                doors = [tie for tie in village.ties() if set(tie) <= set(helper.way(village, one, other))]
                missed = [(tie, known // week + more) for tie in doors[:5] for more in range(-4, 4)]
                then = known_by_missed(village, week, days, missed, one, other, day)
                self.assertEqual((known - then) % week, 0)
                self.assertTrue(0 <= known - then <= len(missed) * week)

    def test_missed_on_ways_by_going_back(self):
        drawn = random.Random(1312)
        for village, week, days in great_cases(1313):
            at = {pair: day for tie, day in days.items() for pair in (tie, tie[::-1])}
            for _ in range(10):
                one, other = drawn.sample(village.people(), 2)
                way = helper.way(village, one, other)
                day = drawn.choice((10 ** 20, 40 * week * len(way), 3 * week))
                doors = list(zip(way, way[1:]))
                missed = list({(drawn.choice(doors), max(0, day // week - drawn.randrange(len(way) + 20)))
                               for _ in range(40)})
                now = day
                for door in doors:
                    # the latest evening on which the door was met, told by stepping week by week
                    now -= (now - at[door]) % week
                    while (door, (now - at[door]) // week) in missed:
                        now -= week
                    now = now if now >= 0 else -10 ** 30
                self.assertTold(known_by_missed(village, week, days, missed, one, other, day), now if now >= 0 else None)

    def test_one_person_and_two(self):
        self.assertTold(known_by_missed(ALONE, 7, {}, [], "a", "a", 10 ** 20), 10 ** 20)
        self.assertTold(missed_for(ALONE, 7, {}, "a", "a", 3, 0), [])
        self.assertTold(missed_for(ALONE, 7, {}, "a", "a", 3, 1), None)
        days = {("b", "a"): 0}
        self.assertTold(known_by_missed(TWO, 1, days, [(("a", "b"), 3), (("a", "b"), 2)], "a", "b", 3), 1)
        self.assertTold(known_by_missed(TWO, 1, days, [[["a", "b"], number] for number in range(4)], "a", "b", 3), None)
        self.assertTold(missed_for(TWO, 1, days, "a", "b", 3, 4), None)
        self.assertTold(len(missed_for(TWO, 1, days, "a", "b", 3, 3)), 3)
        self.assertTold(missed_for(TWO, 3, {("b", "a"): 2}, "a", "b", 1, 0), None)
        self.assertTold(missed_for(TWO, 3, {("b", "a"): 2}, "a", "a", 1, 0), [])

    def test_bad_missed(self):
        right = (("a", "b"), 0)
        wrong = [(thing, 0) for thing in helper.any_objects() if thing not in ([], ())]
        wrong += [([right, thing], 1) for thing in helper.any_objects()]
        wrong += [([right, right], 1), ([right, (("c", "d"), 0), (["b", "a"], 0)], 2), ([(("a", "c"), 0)], 0),
                  ([(("a", "b"), -1)], 0), ([(("a", "b"), True)], 0), ([(("a", "b"),)], 0), ([right + (1,)], 0),
                  ([(("a", "b"), None)], 0), ([("ab", 0)], 0), (right, 0), ([(0, ("a", "b"))], 0), ({right: 1}, 0),
                  ([right, (("a", "b"), [1])], 1)]
        for thing, index in wrong:
            self.assertRaisesJust(BadMissed, {"index": index}, known_by_missed, EXAMPLE, 7, DAYS, thing, None, None, None)
        self.assertTold(known_by_missed(EXAMPLE, 7, DAYS, [right, (("b", "a"), 1)], "b", "a", 20), 19)

    def test_errors_in_order(self):
        for thing in helper.any_objects():
            calls = ((known_by_missed, ([],), ()), (missed_for, (), ("?",)))
            for function, ahead, behind in calls:
                none = tuple(None for _ in ahead)
                if not isinstance(thing, Village):
                    self.assertRaisesJust(BadVillage, {"thing": thing}, function, thing, 0, 0, *none, 0, 0, "?", *behind)
                self.assertRaisesJust(BadWeek, {"week": thing}, function, EXAMPLE, thing, 0, *none, 0, 0, "?", *behind)
                self.assertRaisesJust(BadTimetable, {"timetable": thing}, function, EXAMPLE, 7, thing, *none, 0, 0, "?",
                                      *behind)
                self.assertRaisesJust(NoPerson, {"person": thing}, function, EXAMPLE, 7, DAYS, *ahead, thing, 0, "?",
                                      *behind)
                self.assertRaisesJust(NoPerson, {"person": thing}, function, EXAMPLE, 7, DAYS, *ahead, "a", thing, "?",
                                      *behind)
                for other in ("a", "d"):
                    self.assertRaisesJust(BadDay, {"day": thing}, function, EXAMPLE, 7, DAYS, *ahead, "a", other, thing,
                                          *behind)
            for other in ("a", "d"):
                self.assertRaisesJust(BadMany, {"many": thing}, missed_for, EXAMPLE, 7, DAYS, "a", other, 0, thing)
