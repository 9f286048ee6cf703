"""Points 18.4 and 18.5 and what 18.6 has of them: chances with a told memory, slates that no numbers tell apart."""

import fractions
import itertools
import random

from heardsince.calendars import is_slates
from heardsince.errors import BadVillage, NoPerson
from heardsince.forgetful import ledger_with
from heardsince.forgotten import chance_with, same_ledgers
from heardsince.refusals import BadMemory
from heardsince.villages import Village
from tests import helper
from tests.plain_memory import drawn_memory, everybodys, with_memory
from tests.test_memorywishes import ALONE, EXAMPLE, ONES, STAR


def with_ones(village):
    return Village(village.people(), village.ties(), [1] * len(village.people()))


class Chances(helper.Told):
    """18.4."""

    def test_all_slates(self):
        for seed, village in enumerate(helper.small_villages(1821)):
            every = helper.all_slates(village)
            for number in range(3):
                memory = drawn_memory(village, seed + number, 1 + number)
                heard = [with_memory(village, slates, memory)[0] for slates in every]
                for one, other in itertools.product(village.people(), repeat=2):
                    self.assertTold(chance_with(village, memory, one, other),
                                    helper.part_of(lambda now: other in now[one], heard))

    def test_great_villages(self):
        drawn = random.Random(1822)
        for seed, village in enumerate(helper.great_villages(1823)):
            near = helper.friends(village)
            for most in (1, 2, 100):
                memory = drawn_memory(village, seed, most)
                for one, other in [drawn.choices(village.people(), k=2) for _ in range(30)]:
                    part = fractions.Fraction(1)
                    for person in helper.way(village, other, one)[1:-1]:
                        many = len(near[person])
                        # places of the one ahead and of the friend further on
                        right = [1 for x in range(many) for y in range(x + 1, min(many, x + memory[person] + 1))]
                        part *= fractions.Fraction(len(right), many * (many - 1))
                    self.assertTold(chance_with(village, memory, one, other), (part.numerator, part.denominator))

    def test_one_person_and_friends(self):
        self.assertTold(chance_with(ALONE, {"a": 0}, "a", "a"), (1, 1))
        self.assertTold(chance_with(EXAMPLE, everybodys(EXAMPLE, 0), "a", "b"), (1, 1))
        self.assertTold(chance_with(EXAMPLE, everybodys(EXAMPLE, 0), "a", "c"), (0, 1))
        self.assertTold(chance_with(EXAMPLE, everybodys(EXAMPLE, 100), "a", "d"), (1, 4))


class SameLedgers(helper.Told):
    """18.5."""

    def right_pair(self, village, memory):
        told = same_ledgers(village, memory)
        near = helper.friends(village)
        self.assertIs(told is None, all(len(near[person]) <= memory[person] + 1 for person in near))
        if told is not None:
            self.assertIs(type(told), list)
            one, other = told
            self.assertNotEqual(one, other)
            numbers = []
            for slates in told:
                self.assertIs(is_slates(village, slates), True)
                heard = with_memory(village, slates, memory)[0]
                numbers.append({person: len(heard[person]) for person in heard})
            self.assertEqual(numbers[0], numbers[1])
            self.assertTold(ledger_with(village, one, memory), numbers[0])
        return told

    def test_all_slates(self):
        for seed, village in enumerate(map(with_ones, helper.small_villages(1824))):
            for number in range(4):
                memory = drawn_memory(village, seed + number, number)
                told = self.right_pair(village, memory)
                numbers = [repr(ledger_with(village, slates, memory)) for slates in helper.all_slates(village)]
                self.assertIs(told is None, len(set(numbers)) == len(numbers))

    def test_great_villages(self):
        for village in map(with_ones, helper.great_villages(1825)):
            for number in (0, 1, 2, 5, 57, 58, 100):
                self.right_pair(village, everybodys(village, number))
                self.right_pair(village, drawn_memory(village, number, 3))

    def test_told_slates_have_no_list_in_common(self):
        one, other = same_ledgers(STAR, ONES)
        one["a"].append("more")
        one["c"].append("more")
        self.assertTold((other["a"], len(other["c"])), (["c"], 3))


class Errors(helper.Told):

    def test_errors_in_order(self):
        for function, more in ((chance_with, (None, None)), (same_ledgers, ())):
            for thing in helper.any_objects() + [{**ONES, "a": -1}, {**ONES, "e": 1}, {**ONES, "d": True}]:
                self.assertRaisesJust(BadMemory, {"memory": thing}, function, EXAMPLE, thing, *more)
                if not isinstance(thing, Village):
                    self.assertRaisesJust(BadVillage, {"thing": thing}, function, thing, None, *more)
        for thing in helper.any_objects():
            self.assertRaisesJust(NoPerson, {"person": thing}, chance_with, EXAMPLE, ONES, thing, "?")
            self.assertRaisesJust(NoPerson, {"person": thing}, chance_with, EXAMPLE, ONES, "a", thing)


class Example(helper.Told):
    """18.6, what it has of these."""

    def test_example(self):
        self.assertTold(chance_with(STAR, ONES, "d", "a"), (1, 3))
        self.assertTold(chance_with(STAR, everybodys(STAR, 2), "d", "a"), (1, 2))
        told = [{"a": ["c"], "b": ["c"], "c": row, "d": ["c"]} for row in (["a", "b", "d"], ["a", "d", "b"])]
        self.assertEqual(ledger_with(STAR, told[0], ONES), ledger_with(STAR, told[1], ONES))
        self.assertIsNot(same_ledgers(STAR, ONES), None)
