"""Points 14.4, 14.5 and what 14.7 has of them: how many slates fit, chances, far sayings, sayings that clash."""

import fractions
import functools
import itertools
import math
import random

from heardsince.errors import BadVillage, NoPerson
from heardsince.fitting import chance_fit, clash_of, count_fit, count_of_all, slates_of_all
from heardsince.refusals import BadSayings
from heardsince.sayings import way_of_orders
from heardsince.villages import Village
from tests import helper
from tests.plain_sayings import are_so, drawn_sayings, is_far, orders_by_words, tables_of, true_sayings
from tests.test_sayings import drawn_cases

EXAMPLE = helper.example_village()
TWO_SAID = [("d", "a", True), ("a", "c", False)]
ALONE = Village(["a"], [], [1])
TWO = Village(["a", "b"], [("b", "a")], [1, 1])


def pair(top, bottom):
    value = fractions.Fraction(top, bottom)
    return (value.numerator, value.denominator)


@functools.lru_cache(maxsize=None)
def count_by_last(friends, pairs):
    """How many rows of friends have the orders, by who can stand last."""
    if not friends:
        return 1
    return sum(count_by_last(tuple(one for one in friends if one != last), pairs)
               for last in friends if not any(ahead == last and behind in friends for ahead, behind in pairs))


class HowMany(helper.Told):
    """14.4."""

    def test_all_slates(self):
        for village, sayings in drawn_cases(1411, 8):
            near_ones = [saying for saying in sayings if not is_far(village, saying)]
            right = [table for slates, table in tables_of(village) if are_so(table, near_ones)]
            self.assertTold(count_fit(village, sayings), len(right))
            for one, other in itertools.product(village.people(), repeat=2):
                many = sum(other in table[one] for table in right)
                told = chance_fit(village, sayings, one, other)
                self.assertTold(told, pair(many, len(right)) if right else None)
                if right:
                    way = helper.way(village, other, one)
                    steps = list(zip(way, way[1:], way[2:]))
                    self.assertIs(told == (1, 1), all(way_of_orders(village, sayings, person, ahead, behind) is not None
                                                      for ahead, person, behind in steps))
                    self.assertIs(told == (0, 1), any(way_of_orders(village, sayings, person, behind, ahead) is not None
                                                      for ahead, person, behind in steps))

    def test_ten_friends(self):
        people = [helper.letter_name(place) for place in range(31)]
        ties = [("a", one) for one in people[1:11]] + list(zip(people[1:11], people[11:21]))
        village = Village(people, ties + list(zip(people[11:21], people[21:])), [1] * 31)
        drawn = random.Random(1412)
        for many in (0, 3, 8, 20, 40):
            slates = helper.drawn_slates(village, many)
            sayings = true_sayings(village, slates, many, drawn)
            self.right_products(village, sayings, drawn)
        # a row of orders through all friends, and one told twice
        chain = [(people[place + 2], people[place + 1], True) for place in range(9)]
        self.assertTold(count_fit(village, chain + chain[:1]), 2 ** 20)
        self.assertTold(count_fit(village, chain[:5] + chain[6:]), math.comb(10, 6) * 2 ** 20)
        self.assertTold(count_fit(village, chain + [(people[1], people[10], True)]), 0)
        self.assertTold(chance_fit(village, chain + [(people[1], people[10], True)], "a", "b"), None)
        self.assertTold(count_fit(village, []), math.factorial(10) * 2 ** 20)

    def right_products(self, village, sayings, drawn):
        orders = orders_by_words(village, sayings)
        near = helper.friends(village)
        counts = {person: count_by_last(tuple(near[person]), tuple(orders[person])) for person in village.people()}
        every = math.prod(counts.values())
        self.assertTold(count_fit(village, sayings), every)
        for _ in range(6):
            one, other = drawn.choice(village.people()), drawn.choice(village.people())
            way = helper.way(village, other, one)
            part = fractions.Fraction(1)
            for ahead, person, behind in zip(way, way[1:], way[2:]):
                rows = count_by_last(tuple(near[person]), tuple(orders[person] + [(ahead, behind)]))
                part *= fractions.Fraction(rows, counts[person])
            self.assertTold(chance_fit(village, sayings, one, other), pair(part.numerator, part.denominator))

    def test_great_villages(self):
        drawn = random.Random(1413)
        for seed, village in enumerate([helper.row_village(60)] + helper.some_villages(60, 12, 1414)):
            if max(map(len, helper.friends(village).values())) < 8:
                for many in (0, 10, 60):
                    sayings = true_sayings(village, helper.drawn_slates(village, seed), many, drawn)
                    self.right_products(village, sayings, drawn)
                self.assertTold(count_fit(village, sayings + [("a", "a", False)]), 0)
                self.assertTold(chance_fit(village, sayings + [("a", "a", False)], "a", "b"), None)

    def test_a_star_of_sixty_goes_beyond(self):
        village = helper.star_village(60)
        friends = village.people()[:59]
        sayings = [(friends[1], friends[0], True), (friends[2], friends[1], True)]
        self.assertTold(count_fit(village, sayings), math.factorial(59) // 6)
        self.assertTold(chance_fit(village, sayings, friends[2], friends[0]), (1, 1))
        self.assertTold(chance_fit(village, sayings, friends[0], friends[2]), (0, 1))
        self.assertTold(chance_fit(village, sayings, friends[0], friends[9]), (1, 4))

    def test_one_person_and_two(self):
        self.assertTold(count_fit(ALONE, []), 1)
        self.assertTold(chance_fit(ALONE, [("a", "a", True)], "a", "a"), (1, 1))
        self.assertTold(count_fit(ALONE, [("a", "a", False)]), 0)
        self.assertTold(chance_fit(ALONE, [("a", "a", False)], "a", "a"), None)
        self.assertTold(count_fit(TWO, [("a", "b", True)]), 1)
        self.assertTold(chance_fit(TWO, [], "a", "b"), (1, 1))
        self.assertTold(chance_fit(TWO, [["b", "a", False]], "a", "b"), None)


class FarOnesToo(helper.Told):
    """14.5."""

    def right_ones(self, village, sayings, tables):
        right = [slates for slates, table in tables if are_so(table, sayings)]
        self.assertTold(slates_of_all(village, sayings), right[0] if right else None)
        self.assertTold(count_of_all(village, sayings), len(right))
        clash = None
        for many in range(1, len(sayings) + 1):
            for some in itertools.combinations(range(len(sayings)), many):
                if clash is None and not any(are_so(table, [sayings[index] for index in some]) for slates, table in tables):
                    clash = list(some)
        self.assertTold(clash_of(village, sayings), clash)
        self.assertIs(clash is None, bool(right))

    def test_all_slates(self):
        for village, sayings in drawn_cases(1415, 9):
            self.right_ones(village, sayings[:8], tables_of(village))

    def test_clashes_of_several(self):
        drawn = random.Random(1416)
        lengths = set()
        for village in [helper.row_village(5), helper.star_village(5)] + helper.some_villages(6, 2, 1417):
            tables = tables_of(village)
            for _ in range(40):
                sayings = [saying for saying in drawn_sayings(village, 8, drawn)
                           if len(helper.way(village, *saying[:2])) > 2]
                self.right_ones(village, sayings, tables)
                lengths.add(len(clash_of(village, sayings) or []))
        self.assertLessEqual({0, 2, 3, 4}, lengths)

    def test_eight_people(self):
        drawn = random.Random(1418)
        for village in [helper.star_village(8), helper.row_village(8)] + helper.some_villages(8, 1, 1419):
            sayings = true_sayings(village, helper.drawn_slates(village, 1420), 8, drawn)
            tables = tables_of(village)
            self.right_ones(village, sayings, tables)
            self.right_ones(village, drawn_sayings(village, 8, drawn, (True, True, True, False)), tables)

    def test_one_person_and_two(self):
        self.assertTold(slates_of_all(ALONE, []), {"a": []})
        self.assertTold(count_of_all(ALONE, ()), 1)
        self.assertTold(clash_of(ALONE, []), None)
        self.assertTold(slates_of_all(ALONE, [("a", "a", True), ("a", "a", False)]), None)
        self.assertTold(clash_of(ALONE, [("a", "a", True), ("a", "a", False)]), [1])
        self.assertTold(slates_of_all(TWO, [["a", "b", True]]), {"a": ["b"], "b": ["a"]})
        self.assertTold(clash_of(TWO, (("a", "b", True), ("b", "a", False))), [1])

    def test_errors_in_order(self):
        for thing in helper.any_objects() + [[("a", "b", 1)], [("a", "b")], [("a", "e", True)]]:
            for function, more in ((count_fit, ()), (chance_fit, (None, None)), (slates_of_all, ()), (count_of_all, ()),
                                   (clash_of, ())):
                if not isinstance(thing, Village):
                    self.assertRaisesJust(BadVillage, {"thing": thing}, function, thing, None, *more)
                if thing not in ([], ()):
                    self.assertRaisesJust(BadSayings, {"index": 0}, function, EXAMPLE, thing, *more)
                    self.assertRaisesJust(BadSayings, {"index": 1}, function, EXAMPLE, [("a", "b", True), thing], *more)
            # a saying that nobody can make good changes nothing about who is no person
            for sayings in (TWO_SAID, [("a", "a", False)]):
                self.assertRaisesJust(NoPerson, {"person": thing}, chance_fit, EXAMPLE, sayings, thing, None)
                self.assertRaisesJust(NoPerson, {"person": thing}, chance_fit, EXAMPLE, sayings, "a", thing)

    def test_example(self):
        self.assertTold(count_fit(EXAMPLE, TWO_SAID), 1)
        self.assertTold(count_fit(EXAMPLE, [("a", "d", False)]), 4)
        self.assertTold(count_of_all(EXAMPLE, [("a", "d", False)]), 3)
        self.assertTold(clash_of(EXAMPLE, TWO_SAID + [("a", "c", True)]), [0, 2])
