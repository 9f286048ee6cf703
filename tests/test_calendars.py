"""Points 3.3 to 3.7: meetings, calendars, slates, and who has heard of whom."""

import itertools

from heardsince.calendars import (are_alike, calendar_of, has_heard, heard_ahead, heard_by, heard_of, is_calendar,
                                  is_slates, slates_of)
from heardsince.errors import BadCalendar, BadMany, BadSlates, BadVillage, NoPerson
from heardsince.villages import Village
from tests import helper

EXAMPLE = helper.example_village()
CALENDAR = helper.EXAMPLE_CALENDAR
SLATES = helper.EXAMPLE_SLATES


class Calendars(helper.Told):
    """3.3: calendars and slates."""

    def test_is_calendar(self):
        self.assertIs(is_calendar(EXAMPLE, CALENDAR), True)
        self.assertIs(is_calendar(EXAMPLE, (["c", "b"], ("b", "a"), ["c", "d"])), True)
        self.assertIs(is_calendar(Village(["a"], [], [1]), []), True)
        self.assertIs(is_calendar(Village(["a"], [], [1]), ()), True)

    def test_is_no_calendar(self):
        one = Village(["a"], [], [1])
        two = Village(["a", "b"], [("a", "b")], [1, 1])
        for thing in helper.any_objects():
            self.assertIs(is_calendar(EXAMPLE, thing), False)
            self.assertIs(is_calendar(EXAMPLE, [("b", "c"), thing, ("c", "d")]), False)
            self.assertIs(is_calendar(EXAMPLE, [("b", "c"), ("a", thing), ("c", "d")]), False)
            self.assertIs(is_calendar(EXAMPLE, CALENDAR + [thing]), False)
            self.assertIs(is_calendar(one, thing), thing == [] or thing == ())
        for thing in (CALENDAR[:2], CALENDAR + CALENDAR[:1], CALENDAR[:2] + CALENDAR[1:2], CALENDAR[:2] + [("b", "a")],
                      CALENDAR[:2] + [("a", "d")], CALENDAR[:2] + [("c", "d", "d")], CALENDAR[:2] + [("c",)],
                      dict(CALENDAR), {tie: 1 for tie in CALENDAR}, CALENDAR[:2] + [("d", "d")]):
            self.assertIs(is_calendar(EXAMPLE, thing), False)
        for thing in (["ab"], "ab", [("a", "b"), ("b", "a")], [], [[("a", "b")]], [{"a": 1, "b": 2}]):
            self.assertIs(is_calendar(two, thing), False)

    def test_all_rows_of_meetings(self):
        for village in helper.villages(4):
            ties = village.ties() + [tie[::-1] for tie in village.ties()]
            for row in itertools.product(ties, repeat=len(village.ties())):
                right = len({frozenset(tie) for tie in row}) == len(row)
                self.assertIs(is_calendar(village, list(row)), right)

    def test_all_rows_of_pairs(self):
        people = helper.EXAMPLE_PEOPLE
        for row in itertools.product(itertools.product(people, repeat=2), repeat=3):
            right = sorted(tuple(sorted(pair)) for pair in row) == helper.EXAMPLE_TIES
            self.assertIs(is_calendar(EXAMPLE, row), right)

    def test_is_slates(self):
        self.assertIs(is_slates(EXAMPLE, SLATES), True)
        self.assertIs(is_slates(EXAMPLE, {"d": ("c",), "c": ["b", "d"], "a": ("b",), "b": ("a", "c")}), True)
        self.assertIs(is_slates(Village(["a"], [], [1]), {"a": []}), True)
        self.assertIs(is_slates(Village(["a"], [], [1]), {"a": ()}), True)

    def test_is_no_slates(self):
        for thing in helper.any_objects():
            self.assertIs(is_slates(EXAMPLE, thing), False)
            self.assertIs(is_slates(EXAMPLE, {**SLATES, "b": thing}), False)
            self.assertIs(is_slates(EXAMPLE, {**SLATES, "b": ["a", thing]}), False)
            self.assertIs(is_slates(EXAMPLE, {**SLATES, "b": ["a", "c", thing]}), False)
        for person, slate in (("a", "b"), ("a", []), ("a", ["b", "b"]), ("a", ["a"]), ("b", ["a"]), ("b", ["a", "a"]),
                              ("b", ["a", "c", "a"]), ("b", ["a", "d"]), ("b", {"a": 1, "c": 2}), ("b", "ac"),
                              ("e", []), ("e", ["a"]), (0, []), (None, [])):
            self.assertIs(is_slates(EXAMPLE, {**SLATES, person: slate}), False)
        for person in SLATES:
            self.assertIs(is_slates(EXAMPLE, {one: SLATES[one] for one in SLATES if one != person}), False)
            renamed = {"e" if one == person else one: slate for one, slate in SLATES.items()}
            self.assertIs(is_slates(EXAMPLE, renamed), False)
        self.assertIs(is_slates(EXAMPLE, list(SLATES.items())), False)

    def test_slates_of(self):
        for village in helper.villages(5):
            for calendar in helper.all_calendars(village):
                slates = slates_of(village, calendar)
                self.assertTold(slates, helper.met_rows(village, calendar))
                self.assertIs(is_slates(village, slates), True)

    def test_slates_of_meetings_either_way_round(self):
        self.assertTold(slates_of(EXAMPLE, (["c", "b"], ("b", "a"), ["d", "c"])), SLATES)

    def test_any_slates_are_those_of_some_calendar(self):
        for village in helper.villages(5):
            had = {repr(helper.met_rows(village, calendar)) for calendar in helper.all_calendars(village)}
            self.assertEqual(had, {repr(slates) for slates in helper.all_slates(village)})
            self.assertEqual(had, {repr(slates_of(village, calendar_of(village, slates)))
                                   for slates in helper.all_slates(village)})


class ThereAndBack(helper.Told):
    """3.4: the first calendar of slates, and alike ones."""

    def test_first_calendar(self):
        for village in helper.villages(5):
            first = {}
            for calendar in helper.all_calendars(village):
                first.setdefault(repr(helper.met_rows(village, calendar)), calendar)
            for slates in helper.all_slates(village):
                self.assertTold(calendar_of(village, slates), first[repr(slates)])

    def test_first_calendar_of_some_greater_villages(self):
        for village in helper.some_villages(7, 4, 3):
            slates = helper.drawn_slates(village, 4)
            for calendar in helper.all_calendars(village):
                if helper.met_rows(village, calendar) == slates:
                    self.assertTold(calendar_of(village, slates), calendar)
                    break

    def test_told_as_the_village_has_meetings(self):
        village = Village(["a", "b", "c"], [("c", "b"), ("b", "a")], [1, 1, 1])
        self.assertTold(calendar_of(village, {"c": ("b",), "a": ("b",), "b": ("a", "c")}), [("b", "a"), ("c", "b")])

    def test_alike_just_if_slates_and_what_was_heard_are(self):
        for village in helper.villages(4) + [helper.row_village(5)]:
            calendars = helper.all_calendars(village)
            for one, other in itertools.product(calendars, repeat=2):
                right = helper.met_rows(village, one) == helper.met_rows(village, other)
                self.assertIs(are_alike(village, one, other), right)
                self.assertEqual(right, helper.simulated(village, one) == helper.simulated(village, other))

    def test_alike_whatever_way_round(self):
        self.assertIs(are_alike(EXAMPLE, (["c", "b"], ["c", "d"], ["b", "a"]), CALENDAR), True)
        self.assertIs(are_alike(EXAMPLE, CALENDAR[::-1], CALENDAR), False)


class Heard(helper.Told):
    """3.5: who has heard of whom."""

    def test_what_meetings_tell(self):
        for village in helper.villages(5) + helper.some_villages(6, 2, 5):
            for slates in helper.all_slates(village):
                heard = helper.simulated(village, helper.any_calendar(village, slates))
                for one in village.people():
                    right = [other for other in village.people() if other in heard[one]]
                    self.assertTold(heard_of(village, slates, one), right)
                    right = [other for other in village.people() if one in heard[other]]
                    self.assertTold(heard_by(village, slates, one), right)
                    for other in village.people():
                        self.assertIs(has_heard(village, slates, one, other), other in heard[one])

    def test_rising_ways(self):
        for village in helper.villages(4):
            for slates in helper.all_slates(village):
                for one, other in itertools.product(village.people(), repeat=2):
                    row = helper.way(village, other, one)
                    rises = all(slates[person].index(ahead) < slates[person].index(behind)
                                for ahead, person, behind in zip(row, row[1:], row[2:]))
                    self.assertIs(has_heard(village, slates, one, other), rises)

    def test_facts(self):
        for village in helper.villages(5):
            for slates in helper.all_slates(village):
                self.facts_hold(village, slates)

    def facts_hold(self, village, slates):
        for person in village.people():
            self.assertIs(has_heard(village, slates, person, person), True)
            for x, y in itertools.combinations(slates[person], 2):
                self.assertIs(has_heard(village, slates, y, x), True)
                self.assertIs(has_heard(village, slates, x, y), False)
            for friend in slates[person]:
                self.assertIs(has_heard(village, slates, person, friend), True)
            for other in heard_of(village, slates, person):
                for between in village.way(person, other):
                    self.assertIs(has_heard(village, slates, person, between), True)
                    self.assertIs(has_heard(village, slates, between, other), True)

    def test_tuples_for_lists(self):
        slates = helper.as_tuples(SLATES)
        self.assertTold(heard_of(EXAMPLE, slates, "a"), ["a", "b", "c"])
        self.assertTold(heard_by(EXAMPLE, slates, "a"), ["a", "b"])
        self.assertIs(has_heard(EXAMPLE, slates, "d", "b"), True)


class HourByHour(helper.Told):
    """3.6: what is known behind the first meetings."""

    def test_each_hour(self):
        for village in helper.villages(4) + helper.some_villages(5, 5, 6):
            for calendar in helper.all_calendars(village):
                for many in range(len(calendar) + 1):
                    right = helper.in_order(village, helper.simulated(village, calendar[:many]))
                    self.assertTold(heard_ahead(village, calendar, many), right)

    def test_facts(self):
        for village in helper.villages(5):
            for calendar in helper.all_calendars(village)[::5]:
                slates = slates_of(village, calendar)
                right = {person: heard_of(village, slates, person) for person in village.people()}
                self.assertTold(heard_ahead(village, calendar, len(calendar)), right)
                for place, (one, other) in enumerate(calendar):
                    known = heard_ahead(village, calendar, place + 1)
                    self.assertTold(known[one], known[other])

    def test_lists_are_unlike_objects(self):
        known = heard_ahead(EXAMPLE, helper.as_lists(CALENDAR), 1)
        known["b"].append("z")
        self.assertTold(known["c"], ["b", "c"])
        self.assertTold(heard_ahead(EXAMPLE, CALENDAR, 1), {"a": ["a"], "b": ["b", "c"], "c": ["b", "c"], "d": ["d"]})

    def test_bad_many(self):
        for thing in helper.any_objects() + [4, 5, 10 ** 20, [1], (1,), "1"]:
            self.assertRaisesJust(BadMany, {"many": thing}, heard_ahead, EXAMPLE, CALENDAR, thing)
        self.assertRaisesJust(BadMany, {"many": 1}, heard_ahead, Village(["a"], [], [1]), [], 1)
        self.assertTold(heard_ahead(Village(["a"], [], [1]), (), 0), {"a": ["a"]})


class Example(helper.Told):
    """3.7, number by number."""

    def test_example(self):
        self.assertTold(slates_of(EXAMPLE, CALENDAR), {"a": ["b"], "b": ["c", "a"], "c": ["b", "d"], "d": ["c"]})
        self.assertTold(heard_of(EXAMPLE, SLATES, "a"), ["a", "b", "c"])
        self.assertTold(heard_of(EXAMPLE, SLATES, "b"), ["a", "b", "c"])
        self.assertTold(heard_of(EXAMPLE, SLATES, "c"), ["b", "c", "d"])
        self.assertTold(heard_of(EXAMPLE, SLATES, "d"), ["b", "c", "d"])
        self.assertTold(calendar_of(EXAMPLE, SLATES), [("b", "c"), ("a", "b"), ("c", "d")])
        self.assertIs(are_alike(EXAMPLE, CALENDAR, [("b", "c"), ("c", "d"), ("a", "b")]), True)
        alike = [row for row in itertools.permutations(helper.EXAMPLE_TIES) if are_alike(EXAMPLE, CALENDAR, row)]
        self.assertEqual(alike, [(("b", "c"), ("a", "b"), ("c", "d")), (("b", "c"), ("c", "d"), ("a", "b"))])


class SixtyPeople(helper.Told):
    """The limits at the head of section 3."""

    def test_there_and_back(self):
        cases = [helper.row_village(60), helper.star_village(60)] + helper.some_villages(60, 4, 7)
        for seed, village in enumerate(cases):
            slates = helper.drawn_slates(village, seed)
            calendar = calendar_of(village, slates)
            self.assertTold(slates_of(village, calendar), slates)
            self.assertIs(are_alike(village, calendar, helper.any_calendar(village, slates)), True)
            heard = helper.simulated(village, helper.any_calendar(village, slates))
            self.assertTold(heard_ahead(village, calendar, 59), helper.in_order(village, heard))
            self.assertTold(heard_ahead(village, calendar, 30),
                            helper.in_order(village, helper.simulated(village, calendar[:30])))
            for one in village.people()[::7]:
                self.assertEqual(set(heard_of(village, slates, one)), heard[one])
                self.assertEqual(set(heard_by(village, slates, one)),
                                 {other for other in heard if one in heard[other]})

    def test_a_row_met_from_one_end(self):
        village = helper.row_village(60)
        calendar = village.ties()
        slates = slates_of(village, calendar)
        people = village.people()
        self.assertTold(heard_of(village, slates, people[59]), people)
        self.assertTold(heard_of(village, slates, people[0]), people[:2])
        self.assertTold(calendar_of(village, slates), calendar)
        self.assertTold(slates_of(village, calendar[::-1])[people[1]], [people[2], people[0]])
        self.assertIs(has_heard(village, slates, people[59], people[0]), True)
        self.assertIs(has_heard(village, slates, people[0], people[59]), False)


class Errors(helper.Told):
    """Which errors are due, and which go first."""

    def test_bad_village(self):
        for thing in helper.any_objects():
            if not isinstance(thing, Village):
                told = {"thing": thing}
                self.assertRaisesJust(BadVillage, told, is_calendar, thing, None)
                self.assertRaisesJust(BadVillage, told, is_slates, thing, None)
                self.assertRaisesJust(BadVillage, told, slates_of, thing, None)
                self.assertRaisesJust(BadVillage, told, calendar_of, thing, None)
                self.assertRaisesJust(BadVillage, told, are_alike, thing, None, None)
                self.assertRaisesJust(BadVillage, told, has_heard, thing, None, None, None)
                self.assertRaisesJust(BadVillage, told, heard_of, thing, None, None)
                self.assertRaisesJust(BadVillage, told, heard_by, thing, None, None)
                self.assertRaisesJust(BadVillage, told, heard_ahead, thing, None, None)

    def test_bad_calendar(self):
        for thing in helper.any_objects() + [CALENDAR[:2], [("a", "c")] + CALENDAR[1:]]:
            told = {"calendar": thing}
            self.assertRaisesJust(BadCalendar, told, slates_of, EXAMPLE, thing)
            self.assertRaisesJust(BadCalendar, told, are_alike, EXAMPLE, thing, None)
            self.assertRaisesJust(BadCalendar, told, are_alike, EXAMPLE, CALENDAR, thing)
            self.assertRaisesJust(BadCalendar, told, heard_ahead, EXAMPLE, thing, None)

    def test_bad_slates(self):
        for thing in helper.any_objects() + [{**SLATES, "a": []}, {**SLATES, "a": "b"}]:
            told = {"slates": thing}
            self.assertRaisesJust(BadSlates, told, calendar_of, EXAMPLE, thing)
            self.assertRaisesJust(BadSlates, told, has_heard, EXAMPLE, thing, None, None)
            self.assertRaisesJust(BadSlates, told, heard_of, EXAMPLE, thing, None)
            self.assertRaisesJust(BadSlates, told, heard_by, EXAMPLE, thing, None)

    def test_no_person(self):
        for thing in helper.any_objects() + ["e"]:
            told = {"person": thing}
            self.assertRaisesJust(NoPerson, told, has_heard, EXAMPLE, SLATES, thing, "no one")
            self.assertRaisesJust(NoPerson, told, has_heard, EXAMPLE, SLATES, "a", thing)
            self.assertRaisesJust(NoPerson, told, heard_of, EXAMPLE, SLATES, thing)
            self.assertRaisesJust(NoPerson, told, heard_by, EXAMPLE, SLATES, thing)
