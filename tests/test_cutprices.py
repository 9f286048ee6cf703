"""Point 16.4 and what 16.6 has of it: cuts that cost least, paid rumours."""

import itertools
import random

from heardsince.cutprices import are_paid, cheapest_cut, paid_rumours
from heardsince.cuts import fewest_cut
from heardsince.errors import BadCosts, BadLot, BadSlates, BadVillage
from heardsince.villages import Village
from tests import helper
from tests.plain_rumours import all_cuts, drawn_sides, rumours_by_hand, stops, ties_of
from tests.test_cuts import BOTH, EXAMPLE, SIDES, SLATES, TWO

COSTS = [5, 1, 2]


def price(village, cut, costs):
    return sum(costs[village.ties().index(tie)] for tie in cut)


def are_paid_by_words(village, rumours, costs, thing):
    """Whether pairs of lists and integers from 1 on are paid rumours."""
    left = {frozenset(tie): cost for tie, cost in zip(village.ties(), costs)}
    for way, amount in thing:
        for door in ties_of(way):
            left[door] -= amount
    ways = [list(way) for way, amount in thing]
    return (all(way in rumours for way in ways) and all(ways.count(way) == 1 for way in ways)
            and min(left.values(), default=0) >= 0)


class Costs(helper.Told):

    def right_ones(self, village, slates, hearers, tellers, costs):
        case = (village, slates, hearers, tellers, costs)
        rumours = rumours_by_hand(village, slates, hearers, tellers)
        told = cheapest_cut(*case)
        self.assertIs(type(told), tuple)
        cost, cut = told
        self.assertTold(cut, [tie for tie in village.ties() if tie in cut])
        self.assertTrue(stops(cut, rumours))
        self.assertTold(cost, price(village, cut, costs))
        paid = paid_rumours(*case)
        self.assertTrue(all(type(pair) is tuple and type(pair[0]) is list and type(pair[1]) is int for pair in paid))
        self.assertTrue(all(amount >= 1 for way, amount in paid))
        self.assertTrue(are_paid_by_words(village, rumours, costs, paid))
        # no cut costs less than what is paid: so the one is the least, the other the most
        self.assertEqual(sum(amount for way, amount in paid), cost)
        self.assertIs(are_paid(*case, paid), True)
        self.assertIs(are_paid(*case, tuple([tuple(way), amount] for way, amount in paid[::-1])), True)
        for way, amount in paid[:2]:
            self.assertIs(are_paid(*case, paid + [(way, 1)]), False)
        return rumours, cost

    def test_small_villages(self):
        drawn = random.Random(1621)
        small = [village for village in helper.small_villages(1622) if len(village.people()) > 1]
        for village in small + helper.some_villages(8, 4, 1623):
            for number in range(6):
                slates = helper.drawn_slates(village, number)
                hearers, tellers = drawn_sides(village, drawn)
                costs = [drawn.randint(1, drawn.choice((1, 3, 9, 10 ** 15))) for _ in village.ties()]
                rumours, cost = self.right_ones(village, slates, hearers, tellers, costs)
                self.assertEqual(cost, min(price(village, cut, costs) for cut in all_cuts(village, rumours, [])))
                ones = [1] * len(costs)
                self.assertEqual(cheapest_cut(village, slates, hearers, tellers, ones)[0],
                                 len(fewest_cut(village, slates, hearers, tellers, [])))

    def test_great_villages(self):
        drawn = random.Random(1624)
        for seed, village in enumerate(helper.great_villages(1625) + helper.some_villages(60, 4, 1626)):
            slates = helper.drawn_slates(village, seed)
            for most in (1, 5, 10 ** 15):
                costs = [drawn.randint(1, most) for _ in village.ties()]
                self.right_ones(village, slates, *drawn_sides(village, drawn), costs)
            people = village.people()
            self.right_ones(village, slates, people[::2], people[1::2], [10 ** 15 - at for at in range(59)])

    def test_equal_answers_in_any_order(self):
        drawn = random.Random(1627)
        for village in helper.some_villages(9, 6, 1628):
            slates = helper.drawn_slates(village, 3)
            hearers, tellers = drawn_sides(village, drawn)
            costs = [drawn.randint(1, 9) for _ in village.ties()]
            for function in (cheapest_cut, paid_rumours):
                self.assertTold(function(village, slates, tuple(hearers[::-1]), tellers[::-1], tuple(costs)),
                                function(village, slates, hearers, tellers, costs))

    def test_all_lots_of_pairs(self):
        rumours = rumours_by_hand(EXAMPLE, SLATES, *SIDES)
        pairs = [(way, amount) for way in rumours for amount in (1, 2, 4)]
        for many in range(4):
            for thing in itertools.product(pairs, repeat=many):
                self.assertIs(are_paid(EXAMPLE, SLATES, *SIDES, COSTS, list(thing)),
                              are_paid_by_words(EXAMPLE, rumours, COSTS, thing))

    def test_what_is_not_paid(self):
        way = ["b", "a"]
        for thing in helper.any_objects() + [[(way, 0)], [(way, -1)], [(way, True)], [(way, 6)], [(way, "1")], [(way, None)],
                                             [(way, 1), (way, 1)], [(way, 1, 1)], [(way,)], [way], [("ba", 1)],
                                             [(["a", "b"], 1)], [(["b"], 1)], [([], 1)], [(way, 1), None], [(way, [1])]]:
            if thing not in ([], ()):
                self.assertIs(are_paid(EXAMPLE, SLATES, *SIDES, COSTS, thing), False, thing)
        for thing in ([], (), [(way, 5)], [[("b", "a"), 4], [["c", "b", "a"], 1]]):
            self.assertIs(are_paid(EXAMPLE, SLATES, *SIDES, COSTS, thing), True, thing)

    def test_two_people(self):
        self.assertTold(cheapest_cut(TWO, BOTH, ["a"], ["b"], [7]), (7, [("b", "a")]))
        self.assertTold(paid_rumours(TWO, BOTH, ["a"], ["b"], [7]), [(["b", "a"], 7)])

    def test_nobody_hears(self):
        slates = {**SLATES, "b": ["a", "c"]}
        self.assertTold(cheapest_cut(EXAMPLE, slates, ["a"], ["c", "d"], COSTS), (0, []))
        self.assertTold(paid_rumours(EXAMPLE, slates, ["a"], ["c", "d"], COSTS), [])


class Errors(helper.Told):

    calls = ((cheapest_cut, ()), (paid_rumours, ()), (are_paid, (None,)))

    def test_bad_costs(self):
        wrong = [(thing, 0) for thing in helper.any_objects()]
        wrong += [([1, 1], 2), ([1, 1, 1, 1], 3), ([1, 0, 1], 1), ([1, 1, True], 2), ((1, "1", 1), 1), ([1, None, 0], 1),
                  ({0: 1, 1: 1, 2: 1}, 0)]
        for function, more in self.calls:
            for thing, index in wrong:
                self.assertRaisesJust(BadCosts, {"index": index}, function, EXAMPLE, SLATES, ["a"], ["b"], thing, *more)

    def test_errors_in_order(self):
        for function, more in self.calls:
            for thing in helper.any_objects():
                if not isinstance(thing, Village):
                    self.assertRaisesJust(BadVillage, {"thing": thing}, function, thing, None, None, None, None, *more)
                self.assertRaisesJust(BadSlates, {"slates": thing}, function, EXAMPLE, thing, None, None, None, *more)
                if not (isinstance(thing, list) and thing[:1] == ["a"]):
                    self.assertRaisesJust(BadLot, {"index": 0}, function, EXAMPLE, SLATES, thing, None, None, *more)
                    self.assertRaisesJust(BadLot, {"index": 0}, function, EXAMPLE, SLATES, ["b"], thing, None, *more)
            self.assertRaisesJust(BadLot, {"index": 1}, function, EXAMPLE, SLATES, ["b", "a"], ["c", "b", "e"], None, *more)


class Example(helper.Told):
    """16.6, what it has of costs."""

    def test_example(self):
        self.assertTold(cheapest_cut(EXAMPLE, SLATES, *SIDES, COSTS)[0], 7)
        self.assertEqual(sum(amount for way, amount in paid_rumours(EXAMPLE, SLATES, *SIDES, COSTS)), 7)
