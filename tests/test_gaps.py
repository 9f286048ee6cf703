"""Point 13.6: gaps, a timetable or a clash."""

import itertools
import random

from heardsince.gaps import gap_clash, gaps_of, timetable_of
from heardsince.errors import BadVillage
from heardsince.refusals import BadGaps, BadTimetable, BadWeek
from heardsince.villages import Village
from tests import helper
from tests.plain_weeks import all_timetables
from tests.test_timetables import great_cases, small_cases

EXAMPLE = helper.example_village()
DAYS = {("a", "b"): 5, ("b", "c"): 2, ("c", "d"): 3}
GAPS = {("a", "b", "c"): 4, ("c", "b", "a"): 3, ("b", "c", "d"): 1, ("d", "c", "b"): 6}
ALONE = Village(["a"], [], [1])
TWO = Village(["a", "b"], [("b", "a")], [1, 1])


def triples(village):
    near = helper.friends(village)
    return [(x, person, y) for person in village.people() for x, y in itertools.permutations(near[person], 2)]


def gaps_by_hand(village, week, days):
    at = {pair: day for tie, day in days.items() for pair in (tie, tie[::-1])}
    return {(x, person, y): (at[person, y] - at[person, x]) % week for x, person, y in triples(village)}


def clash_by_words(village, week, gaps):
    near = helper.friends(village)
    for person in village.people():
        for x, y in itertools.combinations(near[person], 2):
            if gaps[x, person, y] + gaps[y, person, x] != week:
                return ("pair", person, x, y)
        for x, y, z in itertools.combinations(near[person], 3):
            if gaps[x, person, y] + gaps[y, person, z] + gaps[z, person, x] not in (week, 2 * week):
                return ("three", person, x, y, z)
    return None


class Gaps(helper.Told):

    def right_back(self, village, week, days):
        told = gaps_of(village, week, days)
        self.assertTold(told, gaps_by_hand(village, week, days))
        self.assertTold(gap_clash(village, week, told), None)
        start = days[village.ties()[0]] if village.ties() else 0
        self.assertTold(timetable_of(village, week, dict(reversed(told.items()))),
                        {tie: (day - start) % week for tie, day in days.items()})

    def test_there_and_back(self):
        for village, week, days in small_cases(1314):
            self.right_back(village, week, helper.turned_keys(helper.turned_keys(days)))

    def test_all_gaps(self):
        drawn = random.Random(1315)
        for village, week in ((helper.row_village(3), 4), (helper.row_village(4), 4), (helper.star_village(4), 3),
                              (helper.star_village(4), 4), (helper.some_villages(5, 1, 1316)[0], 4)):
            right = [repr(gaps_by_hand(village, week, days)) for days in all_timetables(village, week)]
            every = list(itertools.product(range(1, week), repeat=len(triples(village))))
            for row in every if len(every) < 800 else drawn.sample(every, 800):
                gaps = dict(zip(triples(village), row))
                clash = gap_clash(village, week, gaps)
                self.assertTold(clash, clash_by_words(village, week, gaps))
                days = timetable_of(village, week, gaps)
                self.assertIs(days is not None, clash is None)
                self.assertIs(clash is None, repr(gaps) in right)
                if days is not None:
                    self.assertEqual(days[village.ties()[0]], 0)
                    self.assertTold(gaps_of(village, week, days), gaps)

    def test_all_threes_of_right_pairs(self):
        village, week = helper.star_village(5), 5
        friends, middle = village.people()[:4], village.people()[4]
        for row in itertools.product(range(1, week), repeat=6):
            gaps = {}
            for gap, (x, y) in zip(row, itertools.combinations(friends, 2)):
                gaps[x, middle, y] = gap
                gaps[y, middle, x] = week - gap
            clash = gap_clash(village, week, gaps)
            self.assertTold(clash, clash_by_words(village, week, gaps))
            self.assertIs(timetable_of(village, week, gaps) is None, clash is not None)

    def test_one_person_and_two(self):
        for week in (1, 2, 10 ** 6):
            self.assertTold(gaps_of(ALONE, week, {}), {})
            self.assertTold(timetable_of(ALONE, week, {}), {})
            self.assertTold(gap_clash(ALONE, week, {}), None)
            self.assertTold(gaps_of(TWO, week, {("a", "b"): week - 1}), {})
            self.assertTold(timetable_of(TWO, week, {}), {("b", "a"): 0})
            self.assertTold(gap_clash(TWO, week, {}), None)

    def test_great_villages(self):
        drawn = random.Random(1317)
        for village, week, days in great_cases(1318):
            self.right_back(village, week, days)
            gaps = gaps_by_hand(village, week, days)
            x, person, y = drawn.choice(list(gaps))
            if week == 2:
                continue
            wrong = {**gaps, (x, person, y): gaps[x, person, y] % (week - 1) + 1}
            self.assertTold(gap_clash(village, week, wrong), clash_by_words(village, week, wrong))
            self.assertTold(timetable_of(village, week, wrong), None)
            both = {**wrong, (y, person, x): week - wrong[x, person, y]}
            self.assertTold(gap_clash(village, week, both), clash_by_words(village, week, both))

    def test_bad_gaps(self):
        wrong = [thing for thing in helper.any_objects() if thing != {}]
        wrong += [{**GAPS, ("a", "c", "d"): 1}, {key: GAPS[key] for key in list(GAPS)[:3]}, list(GAPS.items()),
                  {"abc": 4, "cba": 3, "bcd": 1, "dcb": 6}, {**GAPS, ("a", "b", "a"): 1}]
        wrong += [{**GAPS, ("c", "b", "a"): gap} for gap in (0, 7, -1, True, None, "3", [3], (3,), 10 ** 30)]
        for thing in wrong + [{}]:
            for function in (timetable_of, gap_clash):
                self.assertRaisesJust(BadGaps, {"gaps": thing}, function, EXAMPLE, 7, thing)
                self.assertRaisesJust(BadGaps, {"gaps": GAPS}, function, EXAMPLE, 1, GAPS)
                if thing != {}:
                    self.assertRaisesJust(BadGaps, {"gaps": thing}, function, TWO, 7, thing)

    def test_errors_in_order(self):
        for thing in helper.any_objects():
            for function in (gaps_of, timetable_of, gap_clash):
                if not isinstance(thing, Village):
                    self.assertRaisesJust(BadVillage, {"thing": thing}, function, thing, None, None)
                self.assertRaisesJust(BadWeek, {"week": thing}, function, EXAMPLE, thing, None)
            self.assertRaisesJust(BadTimetable, {"timetable": thing}, gaps_of, EXAMPLE, 7, thing)

    def test_the_example_of_13_8(self):
        self.assertTold(gaps_of(EXAMPLE, 7, DAYS), GAPS)
        self.assertTold(timetable_of(EXAMPLE, 7, GAPS), {("a", "b"): 0, ("b", "c"): 4, ("c", "d"): 5})
        self.assertTold(gap_clash(EXAMPLE, 7, {**GAPS, ("b", "c", "d"): 2}), ("pair", "c", "b", "d"))
