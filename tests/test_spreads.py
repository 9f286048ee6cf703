"""Point 10.4 and what 10.7 has of it: plans within so many days with at most so many meetings a day."""

from heardsince.errors import BadDays, BadMost, BadVillage
from heardsince.days import is_plan
from heardsince.spreads import least_days, plan_within, too_many
from heardsince.villages import Village
from tests import helper
from tests.test_days import all_plans

EXAMPLE = helper.example_village()
ALONE = Village(["a"], [], [1])
TWO = Village(["a", "b"], [("b", "a")], [1, 1])


def most_on_a_day(plan):
    days = list(plan.values())
    return max([days.count(day) for day in days], default=0)


def too_many_by_words(village, days, most):
    near = helper.friends(village)
    for person in village.people():
        if len(near[person]) > days:
            return ("friends", person)
    if most is not None and len(village.ties()) > days * most:
        return ("meetings", len(village.ties()))
    return None


class Spreads(helper.Told):

    def right_plan(self, village, days, most):
        plan = plan_within(village, days, most)
        fault = too_many(village, days, most)
        self.assertTold(fault, too_many_by_words(village, days, most))
        self.assertIs(plan is None, fault is not None)
        if plan is not None:
            self.assertIs(is_plan(village, plan), True)
            self.assertEqual(list(plan), village.ties())
            self.assertLessEqual(max(plan.values(), default=0), days)
            self.assertLessEqual(most_on_a_day(plan), most or 60)
        return plan

    def test_all_plans(self):
        for village in helper.villages(4) + helper.villages(5)[::6] + helper.some_villages(6, 3, 1004):
            found = [all_plans(village, days) for days in range(6)]
            for most in (None, 1, 2, 3, 4):
                right = [any(most_on_a_day(plan) <= (most or 9) for plan in plans) for plans in found]
                for days in range(6):
                    self.assertIs(self.right_plan(village, days, most) is not None, right[days])
                self.assertTold(least_days(village, most), (right + [True]).index(True))

    def test_one_person_and_two(self):
        for most in (None, 1, 10 ** 15):
            self.assertTold(least_days(ALONE, most), 0)
            self.assertTold(least_days(TWO, most), 1)
            self.assertTold(too_many(TWO, 0, most), ("friends", "a"))
            for days in (0, 1, 10 ** 15):
                self.assertTold(plan_within(ALONE, days, most), {})
                self.assertTold(too_many(ALONE, days, most), None)
                self.right_plan(TWO, days, most)

    def test_great_villages(self):
        for village in helper.great_villages(1005) + helper.some_villages(59, 3, 1006):
            friends = max(map(len, helper.friends(village).values()))
            many = len(village.ties())
            for most in (None, 1, 2, 3, 4, 7, 20, 29, 30, 58, 59, 60, 10 ** 15):
                least = max(friends, 0 if most is None else -(-many // most))
                self.assertTold(least_days(village, most), least)
                for days in (least - 1, least, least + 1, 59, 60, 10 ** 15):
                    self.right_plan(village, days, most)
                self.assertIsNone(plan_within(village, least - 1, most))
                self.assertIsNotNone(plan_within(village, least, most))

    def test_two_great_stars(self):
        # a person's friends keep one day full that others must be taken off
        for left in (1, 10, 29):
            people = [helper.letter_name(place) for place in range(60)]
            ties = [(people[0 if place < left + 2 else 1], people[place]) for place in range(2, 60)]
            village = Village(people, ties + [(people[0], people[1])], [1] * 60)
            for most in (1, 2, 3):
                least = least_days(village, most)
                self.right_plan(village, least, most)
                self.assertIsNotNone(plan_within(village, least, most))

    def test_bad_days_then_bad_most(self):
        for function in (plan_within, too_many):
            for thing in helper.any_objects():
                self.assertRaisesJust(BadDays, {"days": thing}, function, EXAMPLE, thing, "?")
                if thing is not None:
                    self.assertRaisesJust(BadMost, {"most": thing}, function, EXAMPLE, 1, thing)
            self.assertRaisesJust(BadMost, {"most": 0}, function, EXAMPLE, 0, 0)
            self.assertRaisesJust(BadMost, {"most": 0}, function, ALONE, 0, 0)
        for thing in helper.any_objects() + [0]:
            if thing is not None:
                self.assertRaisesJust(BadMost, {"most": thing}, least_days, EXAMPLE, thing)
            if not isinstance(thing, Village):
                self.assertRaisesJust(BadVillage, {"thing": thing}, least_days, thing, "?")
                self.assertRaisesJust(BadVillage, {"thing": thing}, plan_within, thing, None, "?")
                self.assertRaisesJust(BadVillage, {"thing": thing}, too_many, thing, None, "?")

    def test_example(self):
        self.assertTold(too_many(EXAMPLE, 2, 1), ("meetings", 3))
        self.assertTold(plan_within(EXAMPLE, 2, 1), None)
        self.assertTold(too_many(EXAMPLE, 1, 1), ("friends", "b"))
        self.assertTold(too_many(EXAMPLE, 3, 1), None)
        self.assertTold(least_days(EXAMPLE, 1), 3)
        self.assertTold(least_days(EXAMPLE, None), 2)
