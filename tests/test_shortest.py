"""Point 13.7: timetables by which no delay is long."""

import itertools

from heardsince.errors import BadNumber, BadVillage
from heardsince.refusals import BadWeek
from heardsince.shortest import least_delay, timetable_within
from heardsince.timetables import is_timetable
from heardsince.villages import Village
from tests import helper
from tests.plain_weeks import all_timetables, delay_by_gaps

EXAMPLE = helper.example_village()
ALONE = Village(["a"], [], [1])
TWO = Village(["a", "b"], [("b", "a")], [1, 1])


def longest_by_hand(village, week, days):
    return max(delay_by_gaps(village, week, days, one, other)
               for one, other in itertools.product(village.people(), repeat=2))


class Shortest(helper.Told):

    def right_ones(self, village, week, least):
        self.assertTold(least_delay(village, week), least)
        for number in range(5) if least is None else {0, max(0, least - 1), least, least + 1, 10 ** 9}:
            told = timetable_within(village, week, number)
            self.assertIs(told is not None, least is not None and least <= number)
            if told is not None:
                self.assertEqual(list(told), village.ties())
                self.assertIs(is_timetable(village, week, told), True)
                self.assertLessEqual(longest_by_hand(village, week, told), number)
        if least is not None:
            doors = max(len(helper.way(village, one, other)) - 1
                        for one, other in itertools.product(village.people(), repeat=2))
            self.assertGreaterEqual(2 * least, week * (doors - 1))

    def test_all_timetables(self):
        for village in helper.villages(4)[::3] + helper.villages(5)[::30] + [helper.star_village(4)]:
            for week in range(1, 6 if len(village.people()) < 5 else 5):
                longest = [longest_by_hand(village, week, days) for days in all_timetables(village, week)]
                self.right_ones(village, week, min(longest, default=None))

    def test_six_people_and_six_days(self):
        for village in [helper.row_village(6), helper.star_village(6)] + helper.some_villages(6, 2, 1319):
            first = village.ties()[0]
            longest = [longest_by_hand(village, 6, days) for days in all_timetables(village, 6) if days[first] == 0]
            self.right_ones(village, 6, min(longest))

    def test_one_person_and_two(self):
        for week in (1, 2, 6):
            self.right_ones(ALONE, week, 0)
            self.right_ones(TWO, week, 0)
        self.assertTold(timetable_within(ALONE, 1, 0), {})
        self.assertTold(least_delay(helper.star_village(6), 4), None)
        self.assertTold(timetable_within(helper.star_village(6), 4, 10 ** 9), None)

    def test_errors_in_order(self):
        for thing in helper.any_objects():
            for function, more in ((timetable_within, ("?",)), (least_delay, ())):
                if not isinstance(thing, Village):
                    self.assertRaisesJust(BadVillage, {"thing": thing}, function, thing, 0, *more)
                self.assertRaisesJust(BadWeek, {"week": thing}, function, EXAMPLE, thing, *more)
                self.assertRaisesJust(BadWeek, {"week": 0}, function, EXAMPLE, 0, *more)
            for week in (1, 4):
                self.assertRaisesJust(BadNumber, {"number": thing}, timetable_within, EXAMPLE, week, thing)
