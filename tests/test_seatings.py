"""Point 20.4 and what 20.7 has of it: seatings, ties that cross, slates seated."""

import itertools
import random

from heardsince.errors import BadVillage
from heardsince.refusals import BadSeating
from heardsince.seatings import crossing, slates_seated
from heardsince.tables import count_slates
from heardsince.threads import round_of
from heardsince.villages import Village
from tests import helper

EXAMPLE = helper.example_village()
ALONE = Village(["a"], [], [7])
TWO = Village(["a", "b"], [("b", "a")], [2, 3])


def crossing_by_words(village, seating):
    """The first two ties of four people whom one comes to by turns."""
    for former, latter in itertools.combinations(village.ties(), 2):
        if not set(former) & set(latter):
            row = [person in former for person in seating if person in former + latter]
            if row in ([True, False] * 2, [False, True] * 2):
                return (former, latter)
    return None


def seated_by_words(village, seating):
    """Each one's friends from their own seat on."""
    near = helper.friends(village)
    seating = list(seating)
    return {person: [one for one in (seating + seating)[seating.index(person):][:len(seating)] if one in near[person]]
            for person in village.people()}


class Seatings(helper.Told):

    def right_ones(self, village, seating):
        cross = crossing_by_words(village, seating)
        self.assertTold(crossing(village, seating), cross)
        slates = slates_seated(village, seating)
        self.assertTold(slates, None if cross else seated_by_words(village, seating))
        return slates

    def test_all_seatings(self):
        for village in helper.small_villages(2011):
            people = village.people()
            found = {}
            for seating in itertools.permutations(people):
                slates = self.right_ones(village, seating)
                if slates is not None:
                    at = seating.index(people[0])
                    begun = list(seating[at:] + seating[:at])
                    self.assertTold(round_of(village, slates), begun)
                    found.setdefault(repr(begun), set()).add(repr(slates))
            # slates and seatings, from wherever they begin, are one and the same
            self.assertTrue(all(len(these) == 1 for these in found.values()))
            self.assertEqual(len(set.union(*found.values())), len(found))
            self.assertEqual(len(found), count_slates(village))

    def test_rounds_of_all_slates(self):
        for village in helper.small_villages(2012):
            for slates in helper.all_slates(village):
                self.assertTold(slates_seated(village, tuple(round_of(village, slates))), slates)

    def test_great_villages(self):
        drawn = random.Random(2013)
        for seed, village in enumerate(helper.great_villages(2014)):
            slates = helper.drawn_slates(village, seed)
            row = round_of(village, slates)
            self.assertTold(self.right_ones(village, row), slates)
            self.assertTold(self.right_ones(village, row[17:] + row[:17]), slates)
            for _ in range(4):
                one, other = drawn.sample(range(60), 2)
                row[one], row[other] = row[other], row[one]
                self.right_ones(village, row)
            self.right_ones(village, drawn.sample(row, 60))

    def test_one_person_and_two(self):
        self.assertTold(crossing(ALONE, ["a"]), None)
        self.assertTold(slates_seated(ALONE, ("a",)), {"a": []})
        for seating in (["a", "b"], ["b", "a"]):
            self.assertTold(crossing(TWO, seating), None)
            self.assertTold(slates_seated(TWO, seating), {"a": ["b"], "b": ["a"]})

    def test_bad_seating(self):
        wrong = [(thing, 0) for thing in helper.any_objects() if not (isinstance(thing, list) and thing[:1] == ["a"])]
        wrong += [(["a", "b", "c"], 3), (["a", "b", "a", "e"], 2), (["a", "b", "e", "a"], 2), ("abcd", 0), (["a"], 1), ([], 0),
                  (["a", "b", "c", "d", "a"], 4), (["a", "b", "c", "d", None], 4), (["a", ["b"]], 1), (("a", "b"), 2),
                  ({"a": 1, "b": 1, "c": 1, "d": 1}, 0), (["a", "b", None], 2)]
        for function in (crossing, slates_seated):
            for thing, index in wrong:
                self.assertRaisesJust(BadSeating, {"index": index}, function, EXAMPLE, thing)
            for thing in helper.any_objects():
                if not isinstance(thing, Village):
                    self.assertRaisesJust(BadVillage, {"thing": thing}, function, thing, None)

    def test_example(self):
        self.assertTold(crossing(EXAMPLE, ["a", "c", "b", "d"]), (("a", "b"), ("c", "d")))
        self.assertTold(slates_seated(EXAMPLE, ["a", "c", "b", "d"]), None)
        self.assertTold(slates_seated(EXAMPLE, ["d", "c", "a", "b"]), helper.EXAMPLE_SLATES)
