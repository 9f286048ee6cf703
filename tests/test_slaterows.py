"""Point 9.3: unlike pairs of friends, shortest rows of slates, and what lies on them."""

import itertools
import random

from heardsince.errors import BadSlates, BadVillage
from heardsince.slaterows import lies_between, slate_distance, slate_row, unlike_friends
from heardsince.tables import turned
from heardsince.villages import Village
from tests import helper

EXAMPLE = helper.example_village()
SLATES = helper.EXAMPLE_SLATES
ABOUT = {"a": ["b"], "b": ["a", "c"], "c": ["d", "b"], "d": ["c"]}


def unlike_by_hand(village, one, other):
    return [(person, x, y) for person in village.people() for x, y in itertools.combinations(one[person], 2)
            if other[person].index(x) > other[person].index(y)]


class RowsOfSlates(helper.Told):

    def right_row(self, one, other, row):
        self.assertIsInstance(row, list)
        self.assertTold(row[0], one)
        self.assertTold(row[-1], other)
        for ahead, behind in zip(row, row[1:]):
            self.assertIn(repr(behind), [repr(slates) for slates in helper.slate_exchanges(ahead)])
        every = [slate for slates in row for slate in slates.values()] + row
        self.assertEqual(len({id(thing) for thing in every}), len(every))

    def test_all_pairs_of_slates(self):
        stars = [village for village in helper.villages(5) if max(map(len, helper.friends(village).values())) == 4]
        for village in helper.villages(4) + stars[:2]:
            for one in helper.all_slates(village):
                far = helper.steps_from(one, helper.slate_exchanges)
                for other in helper.all_slates(village):
                    self.assertTold(unlike_friends(village, one, other), unlike_by_hand(village, one, other))
                    self.assertTold(slate_distance(village, one, other), far[repr(other)])
                    row = slate_row(village, one, other)
                    self.right_row(one, other, row)
                    self.assertEqual(len(row), far[repr(other)] + 1)
                self.assertEqual([slates for slates in helper.all_slates(village) if far[repr(slates)]
                                  == max(far.values())], [turned(village, one)])

    def test_between_just_if_the_distances_add_up(self):
        for village in helper.villages(4)[4:] + helper.villages(5)[30:32]:
            every = helper.all_slates(village)
            far = {repr(one): helper.steps_from(one, helper.slate_exchanges) for one in every}
            for one, third, other in itertools.product(every, every, every[::2]):
                adds_up = far[repr(one)][repr(third)] + far[repr(third)][repr(other)] == far[repr(one)][repr(other)]
                self.assertIs(lies_between(village, one, third, other), adds_up)

    def test_one_person_and_two(self):
        for people, slates in ((["a"], {"a": ()}), (["b", "a"], {"a": ["b"], "b": ("a",)})):
            village = helper.Village(people, [("a", "b")][:len(people) - 1], [1] * len(people))
            told = {person: list(slates[person]) for person in people}
            self.assertTold(unlike_friends(village, slates, slates), [])
            self.assertTold(slate_row(village, slates, slates), [told])
            self.assertTold(slate_distance(village, slates, slates), 0)
            self.assertIs(lies_between(village, slates, slates, slates), True)

    def test_sixty_people(self):
        for seed, village in enumerate(helper.great_villages(904)):
            drawn = random.Random(seed)
            one = helper.drawn_slates(village, seed)
            about = {person: slate[::-1] for person, slate in one.items()}
            every = [triple for triple in unlike_by_hand(village, one, about)]
            self.assertTold(unlike_friends(village, one, about), every)
            self.assertTold(slate_distance(village, one, about), len(every))
            other = {person: list(slate) for person, slate in one.items()}
            for _ in range(380):
                slate = other[drawn.choice([person for person in other if len(other[person]) > 1])]
                place = drawn.randrange(len(slate) - 1)
                slate[place], slate[place + 1] = slate[place + 1], slate[place]
            row = slate_row(village, helper.as_tuples(one), other)
            self.right_row(one, other, row)
            self.assertEqual(len(row) - 1, slate_distance(village, one, other))
            for third in row[::20]:
                self.assertIs(lies_between(village, one, third, other), True)
            self.assertIs(lies_between(village, one, about, other), False)

    def test_equal_answers_for_tuples_and_in_any_order(self):
        told = slate_row(EXAMPLE, SLATES, ABOUT)
        for change in (helper.as_tuples, helper.as_lists, lambda thing: dict(reversed(thing.items()))):
            self.assertTold(slate_row(EXAMPLE, change(SLATES), change(ABOUT)), told)

    def test_bad_slates_in_order(self):
        wrong = helper.any_objects() + [{**SLATES, "b": ["a"]}, {**SLATES, "e": []}, {**SLATES, "b": ["a", "a"]}]
        for thing in wrong:
            for function in (unlike_friends, slate_row, slate_distance):
                if not isinstance(thing, Village):
                    self.assertRaisesJust(BadVillage, {"thing": thing}, function, thing, None, None)
                self.assertRaisesJust(BadSlates, {"slates": thing}, function, EXAMPLE, thing, None)
                self.assertRaisesJust(BadSlates, {"slates": thing}, function, EXAMPLE, SLATES, thing)
            self.assertRaisesJust(BadSlates, {"slates": thing}, lies_between, EXAMPLE, thing, None, None)
            self.assertRaisesJust(BadSlates, {"slates": thing}, lies_between, EXAMPLE, SLATES, thing, None)
            self.assertRaisesJust(BadSlates, {"slates": thing}, lies_between, EXAMPLE, SLATES, ABOUT, thing)

    def test_example(self):
        self.assertTold(unlike_friends(EXAMPLE, SLATES, ABOUT), [("b", "c", "a"), ("c", "b", "d")])
