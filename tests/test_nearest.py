"""Points 7.5 and 7.6: as few wrong numbers as can be, or as cheap ones."""

import random

from heardsince.errors import BadLedger, BadPrices, BadVillage
from heardsince.lacking import suspects
from heardsince.ledgerbreaks import slates_of_ledger
from heardsince.nearest import cheapest, fewest_wrong, nearest
from heardsince.villages import Village
from tests import helper
from tests.test_lacking import STAR, ledgers_by_hand
from tests.test_ledgers import all_numbers

EXAMPLE = helper.example_village()
THREES = {one: 3 for one in "abcd"}


class Nearest(helper.Told):
    """7.5: fewest wrong, nearest, cheapest."""

    def right(self, village, every, numbers, prices):
        costs = [sum(prices[person] for person in one if one[person] != numbers[person]) for one in every]
        many = [sum(one[person] != numbers[person] for person in one) for one in every]
        self.assertTold(fewest_wrong(village, numbers), min(many))
        self.assertTold(nearest(village, numbers), [one for one, count in zip(every, many) if count == min(many)])
        self.assertTold(cheapest(village, numbers, prices),
                        (min(costs), [one for one, cost in zip(every, costs) if cost == min(costs)]))
        self.facts(village, numbers)
        return min(many)

    def facts(self, village, numbers):
        least = fewest_wrong(village, numbers)
        self.assertEqual(least == 0, slates_of_ledger(village, numbers) is not None)
        found = suspects(village, numbers)
        self.assertEqual(least == 1, len(found) > 0)
        if least == 1:
            changed = [{**numbers, person: number} for person, number in found]
            near = nearest(village, numbers)
            self.assertEqual(len(near), len(changed))
            for one in near:
                self.assertIn(one, changed)

    def test_drawn_ledgers(self):
        drawn = random.Random(71)
        had = {}
        for village in helper.villages(4) + helper.some_villages(5, 20, 72) + helper.some_villages(6, 6, 73, 10 ** 15):
            every = [numbers for numbers, slates in ledgers_by_hand(village)]
            for _ in range(8):
                numbers = dict(drawn.choice(every))
                for person in drawn.sample(village.people(), drawn.randint(0, len(numbers))):
                    numbers[person] = max(0, numbers[person] + drawn.choice([-2, -1, 1, 2]))
                order = drawn.sample(list(numbers), len(numbers))
                prices = {person: drawn.choice([1, 2, 3, 10 ** 6]) for person in order}
                had[self.right(village, every, numbers, prices)] = True
        self.assertLessEqual({0, 1, 2, 3}, set(had))

    def test_all_numbers(self):
        for village in helper.villages(3):
            every = [numbers for numbers, slates in ledgers_by_hand(village)]
            for numbers in all_numbers(village, 1):
                prices = {person: place + 1 for place, person in enumerate(numbers)}
                self.right(village, every, numbers, prices)

    def test_eight_people(self):
        for village in [helper.star_village(8), helper.row_village(8, [10 ** 15] * 8)] + helper.some_villages(8, 2, 74):
            every = [numbers for numbers, slates in ledgers_by_hand(village)]
            prices = {person: 10 ** 6 - place for place, person in enumerate(village.people())}
            self.right(village, every, {person: 0 for person in village.people()}, prices)
            self.right(village, every, {**every[-1], village.people()[2]: 5, village.people()[3]: 5}, prices)

    def test_one_person_and_two(self):
        alone = Village(["a"], [], [3])
        self.assertTold(fewest_wrong(alone, {"a": 3}), 0)
        self.assertTold(fewest_wrong(alone, {"a": 4}), 1)
        self.assertTold(nearest(alone, {"a": 4}), [{"a": 3}])
        self.assertTold(cheapest(alone, {"a": 4}, {"a": 10 ** 6}), (10 ** 6, [{"a": 3}]))
        two = Village(["a", "b"], [("b", "a")], [2, 3])
        self.assertTold(cheapest(two, {"b": 5, "a": 4}, {"b": 1, "a": 2}), (2, [{"a": 5, "b": 5}]))

    def test_bad_ledger_and_bad_prices(self):
        for thing in helper.any_objects() + [{**THREES, "a": True}, {one: 3 for one in "abc"}, {**THREES, "e": 1}]:
            for function in (fewest_wrong, nearest):
                self.assertRaisesJust(BadLedger, {"ledger": thing}, function, EXAMPLE, thing)
            self.assertRaisesJust(BadLedger, {"ledger": thing}, cheapest, EXAMPLE, thing, None)
            self.assertRaisesJust(BadPrices, {"prices": thing}, cheapest, EXAMPLE, THREES, thing)
        for thing in helper.any_objects() + [0, -1, True, "1", None]:
            if thing != 1 or thing is True:
                wrong = {**THREES, "c": thing}
                self.assertRaisesJust(BadPrices, {"prices": wrong}, cheapest, EXAMPLE, THREES, wrong)

    def test_bad_village(self):
        for thing in helper.any_objects():
            if not isinstance(thing, Village):
                for function in (fewest_wrong, nearest):
                    self.assertRaisesJust(BadVillage, {"thing": thing}, function, thing, None)
                self.assertRaisesJust(BadVillage, {"thing": thing}, cheapest, thing, None, None)


class Example(helper.Told):
    """7.6, the end, number by number."""

    def test_example(self):
        numbers = {"c": 4, "x": 3, "y": 3, "z": 3}
        self.assertTold(fewest_wrong(STAR, numbers), 2)
        every = [one for one, slates in ledgers_by_hand(STAR)]
        self.assertTold(nearest(STAR, numbers), every)
        self.assertEqual(len(every), 6)
        told = cheapest(STAR, numbers, {"c": 1, "x": 5, "y": 1, "z": 1})
        self.assertTold(told, (2, [one for one in every if one["x"] == 3]))
        self.assertEqual(len(told[1]), 2)
