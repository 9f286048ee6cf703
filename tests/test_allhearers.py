"""Points 17.1 and 17.2 and what 17.6 has of them: who hears of all, and in how many calendars or slates."""

import math

from heardsince.allhearers import count_both, count_hearing, count_somebody, hear_all, slates_to, told_all
from heardsince.calendars import is_slates
from heardsince.errors import BadSlates, BadVillage, NoPerson, NotFriends
from heardsince.refusals import BadBy
from heardsince.villages import Village
from tests import helper

EXAMPLE = helper.example_village()
SLATES = helper.EXAMPLE_SLATES
ALONE = Village(["a"], [], [7])
TWO = Village(["a", "b"], [("b", "a")], [2, 3])
BOTH = {"a": ["b"], "b": ["a"]}


def heard_by(village, by):
    """The list of who has heard of whom by all calendars, or by all slates."""
    if by == "calendars":
        return [helper.simulated(village, calendar) for calendar in helper.all_calendars(village)]
    return [helper.simulated(village, helper.any_calendar(village, slates)) for slates in helper.all_slates(village)]


class OfAll(helper.Told):
    """17.1."""

    def right_ones(self, village, slates):
        people = village.people()
        heard = helper.simulated(village, helper.any_calendar(village, slates))
        hearers = [person for person in people if heard[person] == set(people)]
        self.assertTold(hear_all(village, slates), hearers)
        self.assertTold(told_all(village, slates), [one for one in people if all(one in heard[other] for other in people)])
        if len(people) > 1:
            self.assertLessEqual(len(hearers), 2)
            for person in people:
                # IT HOLDS: just if each other one's last friend is the one on the way
                last = all(slates[one][-1] == helper.way(village, one, person)[1] for one in people if one != person)
                self.assertIs(person in hearers, last)
            if len(hearers) == 2:
                self.assertIn(hearers[1], helper.friends(village)[hearers[0]])

    def test_all_slates(self):
        for village in helper.small_villages(1701):
            for slates in helper.all_slates(village):
                self.right_ones(village, slates)

    def test_slates_to(self):
        for village in helper.small_villages(1702) + helper.great_villages(1703):
            near = helper.friends(village)
            people = village.people()
            for person in people if len(people) < 10 else people[::14]:
                told = slates_to(village, person)
                right = {one: near[one] if one == person else sorted(
                    near[one], key=lambda friend: friend == helper.way(village, one, person)[1]) for one in people}
                self.assertTold(told, right)
                self.assertIs(is_slates(village, told), True)
                self.assertIn(person, hear_all(village, told))
                self.assertIn(person, told_all(village, helper.turned_about(told)))
                self.right_ones(village, told)

    def test_great_villages(self):
        for seed, village in enumerate(helper.great_villages(1704)):
            self.right_ones(village, helper.drawn_slates(village, seed))

    def test_one_person_and_two(self):
        for function in (hear_all, told_all):
            self.assertTold(function(ALONE, {"a": []}), ["a"])
            self.assertTold(function(TWO, {"b": ("a",), "a": ("b",)}), ["a", "b"])
        self.assertTold(slates_to(ALONE, "a"), {"a": []})
        self.assertTold(slates_to(TWO, "b"), BOTH)


class HowMany(helper.Told):
    """17.2."""

    def test_all_calendars_and_slates(self):
        for village in helper.small_villages(1705):
            people = set(village.people())
            for by in ("calendars", "slates"):
                every = [[one for one in heard if heard[one] == people] for heard in heard_by(village, by)]
                for person in village.people():
                    self.assertTold(count_hearing(village, by, person), len([1 for some in every if person in some]))
                for one, other in village.ties():
                    right = len([1 for some in every if one in some and other in some])
                    self.assertTold(count_both(village, by, one, other), right)
                    self.assertTold(count_both(village, by, other, one), right)
                self.assertTold(count_somebody(village, by), len([1 for some in every if some]))

    def test_great_villages(self):
        for village in helper.great_villages(1706):
            near = helper.friends(village)
            rows = math.prod(math.factorial(len(near[one]) - 1) for one in near)
            people = village.people()
            self.assertTold(count_somebody(village, "slates"), 59 * rows)
            hearing = [count_hearing(village, "calendars", person) for person in people]
            both = [count_both(village, "calendars", one, other) for one, other in village.ties()]
            self.assertTold(count_somebody(village, "calendars"), sum(hearing) - sum(both))
            for person in people[::13]:
                self.assertTold(count_hearing(village, "slates", person), len(near[person]) * rows)
                sizes = [len([1 for other in people if one in helper.way(village, person, other)])
                         for one in people if one != person]
                self.assertTold(hearing[people.index(person)], math.factorial(59) // math.prod(sizes))
            for place in range(0, 59, 13):
                one, other = village.ties()[place]
                self.assertTold(count_both(village, "slates", one, other), rows)
                sizes = [len([1 for another in people if between in helper.way(village, one, another)])
                         for between in people if between not in (one, other)]
                self.assertTold(both[place], math.factorial(59) // (59 * math.prod(sizes)))

    def test_one_person_and_two(self):
        for by in ("calendars", "slates"):
            self.assertTold(count_hearing(ALONE, by, "a"), 1)
            self.assertTold(count_somebody(ALONE, by), 1)
            self.assertTold(count_hearing(TWO, by, "b"), 1)
            self.assertTold(count_both(TWO, by, "b", "a"), 1)
            self.assertTold(count_somebody(TWO, by), 1)

    def test_bad_by(self):
        for thing in helper.any_objects() + ["calendar", "Slates", "slates ", ["slates"], ("calendars",)]:
            self.assertRaisesJust(BadBy, {"by": thing}, count_hearing, EXAMPLE, thing, None)
            self.assertRaisesJust(BadBy, {"by": thing}, count_both, EXAMPLE, thing, None, None)
            self.assertRaisesJust(BadBy, {"by": thing}, count_somebody, EXAMPLE, thing)

    def test_errors(self):
        for by in ("calendars", "slates"):
            for thing in helper.any_objects():
                self.assertRaisesJust(NoPerson, {"person": thing}, count_hearing, EXAMPLE, by, thing)
                self.assertRaisesJust(NoPerson, {"person": thing}, count_both, EXAMPLE, by, thing, "?")
                self.assertRaisesJust(NoPerson, {"person": thing}, count_both, EXAMPLE, by, "a", thing)
            self.assertRaisesJust(NotFriends, {"one": "a", "other": "c"}, count_both, EXAMPLE, by, "a", "c")
            self.assertRaisesJust(NotFriends, {"one": "b", "other": "b"}, count_both, EXAMPLE, by, "b", "b")
        for thing in helper.any_objects():
            for function in (hear_all, told_all):
                self.assertRaisesJust(BadSlates, {"slates": thing}, function, EXAMPLE, thing)
            self.assertRaisesJust(NoPerson, {"person": thing}, slates_to, EXAMPLE, thing)
            if not isinstance(thing, Village):
                for function, more in ((hear_all, (None,)), (told_all, (None,)), (slates_to, (None,)),
                                       (count_hearing, (None, None)), (count_both, (None, None, None)),
                                       (count_somebody, (None,))):
                    self.assertRaisesJust(BadVillage, {"thing": thing}, function, thing, *more)


class Example(helper.Told):
    """17.6, what it has of these."""

    def test_example(self):
        self.assertTold(hear_all(EXAMPLE, SLATES), [])
        self.assertTold(told_all(EXAMPLE, SLATES), ["b", "c"])
        told = slates_to(EXAMPLE, "a")
        self.assertTold((told["b"], told["c"]), (["c", "a"], ["d", "b"]))
        self.assertTold([count_hearing(EXAMPLE, "calendars", one) for one in "abcd"], [1, 3, 3, 1])
        self.assertTold([count_hearing(EXAMPLE, "slates", one) for one in "abcd"], [1, 2, 2, 1])
        self.assertTold([count_both(EXAMPLE, by, "b", "c") for by in ("calendars", "slates")], [2, 1])
        self.assertTold([count_somebody(EXAMPLE, by) for by in ("calendars", "slates")], [4, 3])
