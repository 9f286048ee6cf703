"""Points 12.3, 12.5 and what 12.6 has of them: slates within so many rounds or a way against them, the nearest ones."""

import itertools
import random

from heardsince.errors import BadRounds, BadSlates, BadVillage
from heardsince.fewrounds import is_way_against, least_rounds, nearest_within, slates_within, way_against
from heardsince.villages import Village
from tests import helper
from tests.test_rounds import falls_by_words

EXAMPLE = helper.example_village()
SLATES = helper.EXAMPLE_SLATES
ALONE = Village(["a"], [], [7])
TWO = Village(["a", "b"], [("b", "a")], [2, 3])


def rounds_by_hand(village, slates):
    return max([falls_by_words(village, slates, one, other) + 1
                for one, other in itertools.permutations(village.people(), 2)], default=0)


def longest_by_hand(village):
    return max(len(helper.way(village, one, other)) - 1 for one, other in itertools.product(village.people(), repeat=2))


def are_slates(village, slates):
    near = helper.friends(village)
    return list(slates) == village.people() and all(sorted(slates[one]) == sorted(near[one]) for one in near)


class SlatesOrAWay(helper.Told):
    """12.3."""

    def right_ones(self, village, rounds, least, longest):
        slates, way = slates_within(village, rounds), way_against(village, rounds)
        self.assertIs(slates is None, rounds < least)
        self.assertIs(way is None, rounds >= least)
        if slates is not None:
            self.assertTrue(are_slates(village, slates))
            self.assertLessEqual(rounds_by_hand(village, slates), rounds)
        else:
            self.assertTold(way, helper.way(village, way[0], way[-1]))
            self.assertGreaterEqual(len(way) - 1, 2 * rounds)
            self.assertIs(is_way_against(village, rounds, way), True)
            self.assertIs(is_way_against(village, rounds, tuple(reversed(way))), True)
        self.assertTold(least_rounds(village), least)
        self.assertEqual(least, 1 + longest // 2 if len(village.people()) > 1 else 0)

    def test_all_slates(self):
        for village in helper.villages(5) + helper.some_villages(6, 12, 1203):
            least = min(rounds_by_hand(village, slates) for slates in helper.all_slates(village))
            for rounds in (1, 2, 3, 4, 10 ** 9):
                self.right_ones(village, rounds, least, longest_by_hand(village))

    def test_all_ways(self):
        for village in helper.villages(4) + helper.some_villages(6, 4, 1204):
            people = village.people()
            for one, other in itertools.product(people, repeat=2):
                way = helper.way(village, one, other)
                for rounds in (1, 2, 3):
                    self.assertIs(is_way_against(village, rounds, way), len(way) - 1 >= 2 * rounds)
            for row in itertools.permutations(people[:5], min(3, len(people))):
                right = row[0] != row[-1] and helper.way(village, row[0], row[-1]) == list(row)
                self.assertIs(is_way_against(village, 1, list(row)), right and len(row) == 3)

    def test_drawn_ones(self):
        for many in range(7, 14):
            for village in helper.some_villages(many, 12, 1205 + many) + [helper.row_village(many)]:
                longest = longest_by_hand(village)
                for rounds in range(1, 9):
                    self.right_ones(village, rounds, 1 + longest // 2, longest)

    def test_great_villages(self):
        for village in helper.great_villages(1206) + [helper.row_village(59)] + helper.some_villages(60, 3, 1207):
            longest = longest_by_hand(village)
            for rounds in (1, longest // 2, longest // 2 + 1, 31, 10 ** 9):
                self.right_ones(village, rounds, 1 + longest // 2, longest)

    def test_one_person_and_two(self):
        self.right_ones(ALONE, 1, 0, 0)
        self.assertTold(slates_within(ALONE, 1), {"a": []})
        self.assertIs(is_way_against(ALONE, 1, ["a"]), False)
        self.right_ones(TWO, 1, 1, 1)
        self.assertIs(is_way_against(TWO, 1, ["a", "b"]), False)

    def test_what_is_no_way_against(self):
        wrong = helper.any_objects() + [["a", "b"], ["a", "b", "a"], ["a", "c", "d"], ["a", "b", "d"], ["b", "a", "c"],
                                        "abc", {"a": 1, "b": 2, "c": 3}, ["a", "b", ["c"]], ["a", "b", "c", "e"],
                                        ["a", "b", "c", "b"], [("a", "b"), ("b", "c")]]
        for thing in wrong:
            self.assertIs(is_way_against(EXAMPLE, 1, thing), False)
        for thing in (["a", "b", "c"], ("a", "b", "c", "d"), ["d", "c", "b"]):
            self.assertIs(is_way_against(EXAMPLE, 1, thing), True)
            self.assertIs(is_way_against(EXAMPLE, 2, thing), False)

    def test_errors_in_order(self):
        for function, more in ((slates_within, ()), (way_against, ()), (is_way_against, (None,))):
            for thing in helper.any_objects() + [0]:
                if not isinstance(thing, Village):
                    self.assertRaisesJust(BadVillage, {"thing": thing}, function, thing, None, *more)
                self.assertRaisesJust(BadRounds, {"rounds": thing}, function, EXAMPLE, thing, *more)
                self.assertRaisesJust(BadRounds, {"rounds": thing}, function, ALONE, thing, *more)
        for thing in helper.any_objects():
            if not isinstance(thing, Village):
                self.assertRaisesJust(BadVillage, {"thing": thing}, least_rounds, thing)


class Nearest(helper.Told):
    """12.5."""

    def right_nearest(self, village, slates, rounds, fewest):
        told = nearest_within(village, slates, rounds)
        self.assertIs(told is None, fewest is None)
        if told is not None:
            many, found = told
            self.assertIsInstance(told, tuple)
            self.assertTold(many, fewest)
            self.assertTrue(are_slates(village, found))
            self.assertLessEqual(rounds_by_hand(village, found), rounds)
            unlike = [1 for one in slates for x, y in itertools.combinations(slates[one], 2)
                      if found[one].index(x) > found[one].index(y)]
            self.assertEqual(len(unlike), many)

    def fewest_by_hand(self, village, slates, rounds):
        far = helper.steps_from(slates, helper.slate_exchanges)
        right = [far[repr(other)] for other in helper.all_slates(village) if rounds_by_hand(village, other) <= rounds]
        return min(right, default=None)

    def test_all_slates(self):
        for village in helper.villages(4) + helper.villages(5)[::20] + [helper.row_village(6)]:
            for slates in helper.all_slates(village):
                for rounds in range(1, 5):
                    self.right_nearest(village, slates, rounds, self.fewest_by_hand(village, slates, rounds))

    def test_small_villages(self):
        drawn = random.Random(1208)
        for village in [helper.row_village(8)] + helper.some_villages(8, 2, 1209) + helper.some_villages(7, 3, 1210):
            slates = drawn.choice(helper.all_slates(village))
            for rounds in range(1, 6):
                self.right_nearest(village, slates, rounds, self.fewest_by_hand(village, slates, rounds))

    def test_a_star_and_two_of_eight(self):
        star = helper.star_village(8)
        slates = helper.drawn_slates(star, 1211)
        self.assertTold(nearest_within(star, slates, 1), None)
        self.assertTold(nearest_within(star, helper.as_tuples(slates), 2), (0, slates))
        people = star.people()
        # six friends of one person, one of whom has another one
        village = Village(people, [(one, people[7]) for one in people[:6]] + [(people[5], people[6])], [1] * 8)
        slates = {**helper.friends(village), people[5]: [people[6], people[7]]}
        least = helper.friends(village)
        self.assertEqual(rounds_by_hand(village, slates), 2)
        self.assertTold(nearest_within(village, slates, 2), (0, slates))
        self.assertTold(nearest_within(village, least, 1), None)

    def test_one_person_and_two(self):
        self.assertTold(nearest_within(ALONE, {"a": ()}, 1), (0, {"a": []}))
        self.assertTold(nearest_within(TWO, {"b": ["a"], "a": ("b",)}, 1), (0, {"a": ["b"], "b": ["a"]}))

    def test_errors_in_order(self):
        for thing in helper.any_objects():
            if not isinstance(thing, Village):
                self.assertRaisesJust(BadVillage, {"thing": thing}, nearest_within, thing, None, None)
            self.assertRaisesJust(BadSlates, {"slates": thing}, nearest_within, EXAMPLE, thing, None)
        for thing in helper.any_objects() + [0]:
            self.assertRaisesJust(BadRounds, {"rounds": thing}, nearest_within, EXAMPLE, SLATES, thing)


class Example(helper.Told):
    """12.6, what it has of few rounds."""

    def test_example(self):
        self.assertTold(least_rounds(EXAMPLE), 2)
        self.assertIn(way_against(EXAMPLE, 1), (["a", "b", "c", "d"], ["d", "c", "b", "a"]))
        self.assertTold(way_against(EXAMPLE, 2), None)
        self.assertTold(nearest_within(EXAMPLE, SLATES, 2), (0, SLATES))
