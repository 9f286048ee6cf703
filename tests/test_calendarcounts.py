"""Points 8.1 to 8.4 and 8.7: how many calendars, places of meetings, what is surely ahead, chances."""

import fractions
import itertools
import math

from heardsince.calendarcounts import (ahead_chance, ahead_word, count_calendars, mean_place, place_counts,
                                       surely_ahead, surely_behind)
from heardsince.errors import BadMeeting, BadSlates, BadVillage, SameMeeting
from heardsince.tables import turned
from heardsince.villages import Village
from tests import helper

EXAMPLE = helper.example_village()
SLATES = helper.EXAMPLE_SLATES
ALONE = Village(["a"], [], [1])
ONE_MEETING = (place_counts, mean_place, surely_ahead, surely_behind)
TWO_MEETINGS = (ahead_word, ahead_chance)


def alike_calendars(village):
    """The pairs (slates, all calendars with them, in order), told by going through all calendars."""
    found = {}
    for calendar in helper.all_calendars(village):
        slates = helper.met_rows(village, calendar)
        found.setdefault(repr(slates), (slates, []))[1].append(calendar)
    return list(found.values())


def pair(value):
    """A fraction as it is told."""
    return (value.numerator, value.denominator)


def chain_counts(village, slates):
    """Of each two meetings, as sets, whether on the way with both each next door is held behind the one ahead."""
    found = {}
    for one, other in itertools.permutations(village.people(), 2):
        row = helper.way(village, one, other)
        doors = [frozenset(door) for door in zip(row, row[1:])]
        if len(doors) > 1:
            found[doors[0], doors[-1]] = all(slates[person].index(ahead) < slates[person].index(behind)
                                             for ahead, person, behind in zip(row, row[1:], row[2:]))
    return found


def zigzag(many):
    """In how many orders so many things rise and fall by turns, by the triangle of Seidel."""
    row = [1]
    for _ in range(many):
        row = list(itertools.accumulate([0] + row[::-1]))
    return row[-1]


class Counts(helper.Told):
    """8.1 and 8.2: how many calendars, and places."""

    def test_all_calendars(self):
        for village in helper.villages(4) + helper.villages(5)[-50:] + helper.some_villages(6, 6, 81):
            for slates, calendars in alike_calendars(village):
                self.assertTold(count_calendars(village, slates), len(calendars))
                self.assertTold(count_calendars(village, helper.as_tuples(slates)), len(calendars))
                means = fractions.Fraction(0)
                for tie in village.ties():
                    places = [calendar.index(tie) for calendar in calendars]
                    self.assertTold(place_counts(village, slates, tie),
                                    {place: places.count(place) for place in sorted(set(places))})
                    mean = fractions.Fraction(sum(places), len(places))
                    self.assertTold(mean_place(village, slates, list(tie[::-1])), pair(mean))
                    means += mean
                many = len(village.people())
                self.assertEqual(means, fractions.Fraction((many - 1) * (many - 2), 2))

    def test_seven_people(self):
        for village in [helper.row_village(7)] + helper.some_villages(7, 2, 82):
            for slates, calendars in alike_calendars(village):
                self.assertTold(count_calendars(village, slates), len(calendars))
                places = [calendar.index(village.ties()[3]) for calendar in calendars]
                self.assertTold(place_counts(village, slates, village.ties()[3]),
                                {place: places.count(place) for place in sorted(set(places))})

    def test_added_up_and_turned_about(self):
        for village in helper.villages(5)[::3] + helper.some_villages(7, 3, 83):
            counts = [count_calendars(village, slates) for slates in helper.all_slates(village)]
            self.assertEqual(sum(counts), math.factorial(len(village.people()) - 1))
            for slates, count in list(zip(helper.all_slates(village), counts))[::7]:
                self.assertEqual(count_calendars(village, turned(village, slates)), count)

    def test_one_person_and_two(self):
        self.assertTold(count_calendars(ALONE, {"a": []}), 1)
        two = Village(["a", "b"], [("b", "a")], [1, 1])
        slates = {"a": ["b"], "b": ["a"]}
        self.assertTold(count_calendars(two, slates), 1)
        self.assertTold(place_counts(two, slates, ["a", "b"]), {0: 1})
        self.assertTold(mean_place(two, slates, ("b", "a")), (0, 1))
        self.assertTold(surely_ahead(two, slates, ("b", "a")), [])
        self.assertTold(surely_behind(two, slates, ("b", "a")), [])

    def test_rows_and_stars_of_sixty(self):
        star, row = helper.star_village(60), helper.row_village(60)
        slates = helper.drawn_slates(star, 84)
        order = slates[star.people()[59]]
        self.assertTold(count_calendars(star, slates), 1)
        for place in (0, 17, 58):
            self.assertTold(place_counts(star, slates, (order[place], star.people()[59])), {place: 1})
            self.assertTold(mean_place(star, slates, (order[place], star.people()[59])), (place, 1))
        rising = {person: [friend for friend in near] for person, near in helper.friends(row).items()}
        self.assertTold(count_calendars(row, rising), 1)
        by_turns = {person: near[::1 if place % 2 else -1] for place, (person, near) in enumerate(rising.items())}
        self.assertTold(count_calendars(row, by_turns), zigzag(59))
        for place in (0, 30, 58):
            counts = place_counts(row, by_turns, row.ties()[place])
            self.assertEqual(sum(counts.values()), zigzag(59))

    def test_facts_of_sixty(self):
        for seed, village in enumerate([helper.row_village(60), helper.star_village(60)]
                                       + helper.some_villages(60, 4, 85)):
            slates = helper.drawn_slates(village, seed)
            about = turned(village, slates)
            count = count_calendars(village, slates)
            self.assertEqual(count_calendars(village, about), count)
            means = fractions.Fraction(0)
            for tie in village.ties():
                counts = place_counts(village, slates, tie)
                ahead, behind = surely_ahead(village, slates, tie), surely_behind(village, slates, tie)
                self.assertEqual(list(counts), list(range(len(ahead), 59 - len(behind))))
                self.assertEqual(sum(counts.values()), count)
                self.assertEqual(list(place_counts(village, about, tie).values()), list(counts.values())[::-1])
                mean = fractions.Fraction(sum(place * many for place, many in counts.items()), count)
                self.assertTold(mean_place(village, slates, tie), pair(mean))
                means += mean
            self.assertEqual(means, fractions.Fraction(59 * 58, 2))


class Ahead(helper.Told):
    """8.3 and 8.4: surely ahead, and with which chance."""

    def test_all_calendars(self):
        for village in helper.villages(4) + helper.villages(5)[-40:] + helper.some_villages(6, 4, 86):
            ties = village.ties()
            for slates, calendars in alike_calendars(village):
                times = [{tie: time for time, tie in enumerate(calendar)} for calendar in calendars]
                ahead = {(one, other): sum(row[one] < row[other] for row in times)
                         for one, other in itertools.permutations(ties, 2)}
                every = len(calendars)
                for (one, other), many in ahead.items():
                    word = "always" if many == every else "sometimes" if many else "never"
                    self.assertTold(ahead_word(village, slates, one, other), word)
                    self.assertTold(ahead_chance(village, slates, other, list(one)),
                                    pair(1 - fractions.Fraction(many, every)))
                for tie in ties:
                    self.assertTold(surely_ahead(village, slates, tie),
                                    [one for one in ties if one != tie and ahead[one, tie] == every])
                    self.assertTold(surely_behind(village, slates, list(tie)),
                                    [one for one in ties if one != tie and ahead[tie, one] == every])

    def test_meetings_either_way_round(self):
        for one in (("b", "c"), ["c", "b"]):
            for other in (("d", "c"), ["c", "d"], ("c", "d")):
                self.assertTold(ahead_word(EXAMPLE, SLATES, one, other), "always")
                self.assertTold(ahead_word(EXAMPLE, SLATES, other, one), "never")
                self.assertTold(ahead_chance(EXAMPLE, SLATES, one, other), (1, 1))
                self.assertTold(ahead_chance(EXAMPLE, SLATES, other, one), (0, 1))

    def test_always_along_ways_that_rise(self):
        for seed, village in enumerate([helper.row_village(60), helper.star_village(60)]
                                       + helper.some_villages(60, 2, 87)):
            slates = helper.drawn_slates(village, seed)
            rises = chain_counts(village, slates)
            ties = village.ties()
            sure = {tie: [one for one in ties if one != tie and rises[frozenset(one), frozenset(tie)]] for tie in ties}
            for tie in ties:
                self.assertTold(surely_ahead(village, slates, tie), sure[tie])
                self.assertTold(surely_behind(village, slates, tie), [one for one in ties if tie in sure[one]])
            for one, other in list(itertools.permutations(ties, 2))[::101]:
                word = "always" if one in sure[other] else "never" if other in sure[one] else "sometimes"
                self.assertTold(ahead_word(village, slates, one, other), word)

    def test_chances_of_fourteen(self):
        for seed, village in enumerate([helper.row_village(14), helper.star_village(14)]
                                       + helper.some_villages(14, 5, 88)):
            slates = helper.drawn_slates(village, seed)
            ties = village.ties()
            chances = {}
            for one, other in itertools.permutations(ties, 2):
                chances[one, other] = fractions.Fraction(*ahead_chance(village, slates, one, other))
                sure = {"always": 1, "never": 0}.get(ahead_word(village, slates, one, other))
                self.assertEqual(chances[one, other] if chances[one, other] in (0, 1) else None, sure)
            for tie in ties:
                self.assertEqual(fractions.Fraction(*mean_place(village, slates, tie)),
                                 sum(chances[one, tie] for one in ties if one != tie))
                for one in ties:
                    if one != tie:
                        self.assertEqual(chances[one, tie] + chances[tie, one], 1)

    def test_chances_by_going_through_what_is_held(self):
        for seed, village in enumerate([helper.row_village(10)] + helper.some_villages(11, 3, 89)):
            slates = helper.drawn_slates(village, seed)
            ties = village.ties()
            for one, other in list(itertools.permutations(ties, 2))[::5]:
                self.assertTold(ahead_chance(village, slates, one, other), chance_by_held(village, slates, one, other))

    def test_sixty_people_go_somewhat_beyond(self):
        village = helper.some_villages(60, 1, 90)[0]
        slates = helper.drawn_slates(village, 90)
        tie = village.ties()[20]
        chances = [fractions.Fraction(*ahead_chance(village, slates, one, tie)) for one in village.ties() if one != tie]
        self.assertEqual(pair(sum(chances)), mean_place(village, slates, tie))


def chance_by_held(village, slates, one, other):
    """The chance that one is held ahead of other, by how many ways lead to each lot of meetings that can be held."""
    ties = village.ties()
    ways = {(): (1, 0)}
    for _ in ties:
        grown = {}
        for held, (every, ahead) in ways.items():
            for tie in ties:
                ready = all(tuple(sorted((person, friend))) in held for person, last in (tie, tie[::-1])
                            for friend in slates[person][:slates[person].index(last)])
                if ready and tuple(sorted(tie)) not in held:
                    now = tuple(sorted(held + (tuple(sorted(tie)),)))
                    more = ahead
                    if tie == other:
                        more = every if tuple(sorted(one)) in held else 0
                    old = grown.get(now, (0, 0))
                    grown[now] = (old[0] + every, old[1] + more)
        ways = grown
    (every, ahead), = ways.values()
    return pair(fractions.Fraction(ahead, every))


class Example(helper.Told):
    """8.7, number by number (more: see test_calendarnumbers)."""

    def test_example(self):
        self.assertTold(count_calendars(EXAMPLE, SLATES), 2)
        self.assertTold(place_counts(EXAMPLE, SLATES, ("a", "b")), {1: 1, 2: 1})
        self.assertTold(mean_place(EXAMPLE, SLATES, ("a", "b")), (3, 2))
        self.assertTold(place_counts(EXAMPLE, SLATES, ("b", "c")), {0: 2})
        self.assertTold(mean_place(EXAMPLE, SLATES, ("b", "c")), (0, 1))
        self.assertTold(ahead_word(EXAMPLE, SLATES, ("b", "c"), ("d", "c")), "always")
        self.assertTold(ahead_word(EXAMPLE, SLATES, ("a", "b"), ("c", "d")), "sometimes")
        self.assertTold(ahead_chance(EXAMPLE, SLATES, ("a", "b"), ("c", "d")), (1, 2))


class Errors(helper.Told):
    """Which errors are due, and which go first."""

    def test_bad_village_and_bad_slates(self):
        for thing in helper.any_objects():
            calls = [(count_calendars, ())] + [(function, (None,)) for function in ONE_MEETING]
            for function, more in calls + [(function, (None, None)) for function in TWO_MEETINGS]:
                if not isinstance(thing, Village):
                    self.assertRaisesJust(BadVillage, {"thing": thing}, function, thing, None, *more)
                self.assertRaisesJust(BadSlates, {"slates": thing}, function, EXAMPLE, thing, *more)

    def test_bad_meeting(self):
        wrong = helper.any_objects() + [("a", "c"), ("a", "a"), ["d", "a"], ("a", "e"), ("a",), ("a", "b", "c"), "ab",
                                        {"a": 1, "b": 2}, [("a", "b")], ("a", ["b"]), (("a",), "b"), ("a", None)]
        for thing in wrong:
            for function in ONE_MEETING:
                self.assertRaisesJust(BadMeeting, {"meeting": thing}, function, EXAMPLE, SLATES, thing)
                self.assertRaisesJust(BadMeeting, {"meeting": thing}, function, ALONE, {"a": []}, thing)
            for function in TWO_MEETINGS:
                self.assertRaisesJust(BadMeeting, {"meeting": thing}, function, EXAMPLE, SLATES, thing, None)
                self.assertRaisesJust(BadMeeting, {"meeting": thing}, function, EXAMPLE, SLATES, ("a", "b"), thing)

    def test_same_meeting(self):
        for function in TWO_MEETINGS:
            for one in (("a", "b"), ["b", "a"], ("b", "a")):
                for other in (("a", "b"), ["a", "b"], ("b", "a"), ["b", "a"]):
                    self.assertRaisesJust(SameMeeting, {"meeting": other}, function, EXAMPLE, SLATES, one, other)
