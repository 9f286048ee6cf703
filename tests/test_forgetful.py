"""Points 18.1 and 18.2 and what 18.6 has of them: memory, and how much of it is enough."""

import itertools
import random

from heardsince.errors import BadSlates, BadVillage, NoPerson
from heardsince.forgetful import (heard_with, least_memory, ledger_with, memory_for, pairs_by_memory, still_knows,
                                  table_with)
from heardsince.ledgers import ledger
from heardsince.refusals import BadMemory, BadWishes
from heardsince.villages import Village
from tests import helper
from tests.plain_memory import drawn_memory, everybodys, least_by_words, with_memory

EXAMPLE = helper.example_village()
SLATES = helper.EXAMPLE_SLATES
ALONE = Village(["a"], [], [7])
TWO = Village(["a", "b"], [("b", "a")], [2, 3])
BOTH = {"a": ["b"], "b": ["a"]}
STAR = Village(["a", "b", "c", "d"], [("a", "c"), ("c", "b"), ("d", "c")], [1] * 4)
STAR_SLATES = {"a": ["c"], "b": ["c"], "c": ["a", "b", "d"], "d": ["c"]}
ONES = {"a": 1, "b": 1, "c": 1, "d": 1}


class Memory(helper.Told):
    """18.1."""

    def right_ones(self, village, slates, memory):
        people = village.people()
        news = dict(zip(people, village.news()))
        heard, kept = with_memory(village, slates, memory)
        self.assertTold(table_with(village, slates, memory), helper.in_order(village, heard))
        self.assertTold(ledger_with(village, slates, memory), {one: sum(news[other] for other in heard[one]) for one in people})
        some = people if len(people) < 10 else people[::9]
        for one in some:
            self.assertTold(still_knows(village, slates, memory, one), [other for other in people if other in kept[one]])
            for other in some:
                self.assertIs(heard_with(village, slates, memory, one, other), other in heard[one])
        return heard

    def test_all_slates(self):
        for village in helper.small_villages(1801):
            for number, slates in enumerate(helper.all_slates(village)[::1 + len(village.people()) // 5]):
                self.right_ones(village, helper.as_tuples(slates), drawn_memory(village, number, 1 + number % 4))

    def test_great_villages(self):
        for seed, village in enumerate(helper.great_villages(1802)):
            slates = helper.drawn_slates(village, seed)
            for most in (1, 3, 100):
                self.right_ones(village, slates, drawn_memory(village, seed, most))

    def test_nothing_and_all_kept(self):
        for seed, village in enumerate(helper.small_villages(1803) + helper.great_villages(1804)):
            slates = helper.drawn_slates(village, seed)
            heard = self.right_ones(village, slates, everybodys(village, 0))
            near = helper.friends(village)
            self.assertEqual(heard, {one: {one, *near[one]} for one in near})
            self.assertTold(ledger_with(village, slates, everybodys(village, 100)), ledger(village, slates))
            self.right_ones(village, slates, everybodys(village, 100))

    def test_one_person_and_two(self):
        for number in (0, 1, 100):
            self.right_ones(ALONE, {"a": []}, {"a": number})
            self.right_ones(TWO, BOTH, {"b": number, "a": 0})

    def test_bad_memory(self):
        calls = ((heard_with, (None, None)), (table_with, ()), (ledger_with, ()), (still_knows, (None,)))
        for function, more in calls:
            for thing in helper.any_objects() + [{"a": 1, "b": 1, "c": 1}, {**ONES, "e": 1}, {**ONES, "a": -1}, [1] * 4,
                                                 {**ONES, "d": True}, {**ONES, "d": None}, {**ONES, "d": "1"}]:
                self.assertRaisesJust(BadMemory, {"memory": thing}, function, EXAMPLE, SLATES, thing, *more)
            for thing in helper.any_objects():
                self.assertRaisesJust(BadSlates, {"slates": thing}, function, EXAMPLE, thing, None, *more)
                if not isinstance(thing, Village):
                    self.assertRaisesJust(BadVillage, {"thing": thing}, function, thing, None, None, *more)

    def test_no_person(self):
        for thing in helper.any_objects():
            self.assertRaisesJust(NoPerson, {"person": thing}, heard_with, EXAMPLE, SLATES, ONES, thing, "?")
            self.assertRaisesJust(NoPerson, {"person": thing}, heard_with, EXAMPLE, SLATES, ONES, "a", thing)
            self.assertRaisesJust(NoPerson, {"person": thing}, still_knows, EXAMPLE, SLATES, ONES, thing)


class HowMuchIsEnough(helper.Told):
    """18.2."""

    def least_ones(self, village, slates):
        return {(one, other): least_by_words(slates, helper.way(village, other, one))
                for one in village.people() for other in village.people()}

    def right_pairs(self, village, slates, least):
        numbers = [least[one, other] for one, other in least if one != other and least[one, other] is not None]
        self.assertTold(pairs_by_memory(village, slates), [numbers.count(at) for at in range(max(numbers, default=-1) + 1)])

    def test_all_slates(self):
        for village in helper.small_villages(1805):
            for slates in helper.all_slates(village)[::1 + len(village.people()) // 5]:
                least = self.least_ones(village, slates)
                self.right_pairs(village, slates, least)
                for one, other in least:
                    self.assertTold(least_memory(village, slates, one, other), least[one, other])

    def test_least_is_least(self):
        for seed, village in enumerate(helper.some_villages(7, 6, 1806) + [helper.star_village(7)]):
            slates = helper.drawn_slates(village, seed)
            heard = [with_memory(village, slates, everybodys(village, number))[0] for number in range(7)]
            for one, other in itertools.product(village.people(), repeat=2):
                right = [number for number in range(7) if other in heard[number][one]]
                self.assertTold(least_memory(village, slates, one, other), right[0] if right else None)

    def test_great_villages(self):
        for seed, village in enumerate(helper.great_villages(1807)):
            slates = helper.drawn_slates(village, seed)
            least = self.least_ones(village, slates)
            self.right_pairs(village, slates, least)
            for one, other in list(least)[::400]:
                self.assertTold(least_memory(village, slates, one, other), least[one, other])

    def test_memory_for(self):
        drawn = random.Random(1808)
        for village in helper.small_villages(1809) + helper.great_villages(1810):
            slates = helper.drawn_slates(village, 3)
            people = village.people()
            heard = [(one, other) for one in people for other in people
                     if helper.rises(slates, helper.way(village, other, one))]
            for many in (0, 1, 2, 5, 40):
                wishes = [drawn.choice(heard) for _ in range(many)]
                told = memory_for(village, slates, wishes)
                right = {person: 0 for person in people}
                for one, other in wishes:
                    way = helper.way(village, other, one)
                    for ahead, person, behind in zip(way, way[1:], way[2:]):
                        right[person] = max(right[person], slates[person].index(behind) - slates[person].index(ahead))
                self.assertTold(told, right)
                now = with_memory(village, slates, told)[0]
                self.assertTrue(all(other in now[one] for one, other in wishes))
                self.assertTold(memory_for(village, slates, helper.as_tuples(wishes[::-1] + wishes[:1])), told)
                # with less at anybody some wish is not heard
                for person in [one for one in people if told[one] > 0][:5]:
                    now = with_memory(village, slates, {**told, person: told[person] - 1})[0]
                    self.assertFalse(all(other in now[one] for one, other in wishes))
                far = [(one, other) for one in people for other in people if (one, other) not in heard]
                if far:
                    self.assertTold(memory_for(village, slates, wishes + [drawn.choice(far)]), None)

    def test_one_person_and_two(self):
        self.assertTold(pairs_by_memory(ALONE, {"a": []}), [])
        self.assertTold(pairs_by_memory(TWO, BOTH), [2])
        self.assertTold(least_memory(ALONE, {"a": []}, "a", "a"), 0)
        self.assertTold(least_memory(TWO, BOTH, "b", "a"), 0)
        self.assertTold(memory_for(ALONE, {"a": []}, [("a", "a"), ("a", "a")]), {"a": 0})
        self.assertTold(memory_for(TWO, BOTH, [("a", "b"), ("b", "a"), ("a", "b")]), {"a": 0, "b": 0})

    def test_bad_wishes(self):
        wrong = [(thing, 0) for thing in helper.any_objects() if thing not in ([], ())]
        wrong += [([("a", "b"), ("a", "e")], 1), ([("a", "a"), ["b", "c"], ("a",)], 2), ([("a", "b", "c")], 0), ("ab", 0),
                  ([("a", "b"), "ab"], 1), ([("a", ["b"])], 0), ([("a", "b"), None], 1), ({("a", "b"): 1}, 0)]
        for thing, index in wrong:
            self.assertRaisesJust(BadWishes, {"index": index}, memory_for, EXAMPLE, SLATES, thing)

    def test_errors_in_order(self):
        for function, more in ((least_memory, (None, None)), (pairs_by_memory, ()), (memory_for, (None,))):
            for thing in helper.any_objects():
                if not isinstance(thing, Village):
                    self.assertRaisesJust(BadVillage, {"thing": thing}, function, thing, None, *more)
                self.assertRaisesJust(BadSlates, {"slates": thing}, function, EXAMPLE, thing, *more)
        for thing in helper.any_objects():
            self.assertRaisesJust(NoPerson, {"person": thing}, least_memory, EXAMPLE, SLATES, thing, "?")
            self.assertRaisesJust(NoPerson, {"person": thing}, least_memory, EXAMPLE, SLATES, "a", thing)


class Example(helper.Told):
    """18.6, what it has of memory."""

    def test_example(self):
        self.assertIs(heard_with(STAR, STAR_SLATES, ONES, "b", "a"), True)
        self.assertIs(heard_with(STAR, STAR_SLATES, ONES, "d", "b"), True)
        self.assertIs(heard_with(STAR, STAR_SLATES, ONES, "d", "a"), False)
        self.assertTold(least_memory(STAR, STAR_SLATES, "d", "a"), 2)
        self.assertTold(pairs_by_memory(STAR, STAR_SLATES), [6, 2, 1])
        self.assertTold(ledger_with(STAR, STAR_SLATES, ONES), {"a": 2, "b": 3, "c": 4, "d": 3})
        self.assertTold(still_knows(STAR, STAR_SLATES, ONES, "c"), ["c", "d"])
        self.assertTold(memory_for(STAR, STAR_SLATES, [("b", "a"), ("d", "a")]), {"a": 0, "b": 0, "c": 2, "d": 0})
