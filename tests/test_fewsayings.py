"""Point 20.6 and what 20.7 has of it: the fewest sayings, first seams, whether sayings leave one."""

import itertools
import random

from heardsince.errors import BadSlates, BadVillage
from heardsince.fewsayings import fewest_sayings, first_seams, leaves_one
from heardsince.refusals import BadSayings, NotHeard
from heardsince.villages import Village
from tests import helper
from tests.test_threads import ALONE, BOTH, EXAMPLE, SLATES, TWO, thread_by_hand


def covered(village, saying):
    """The seams that a saying covers."""
    row = helper.way(village, saying[1], saying[0])
    return {(person, ahead, behind) for ahead, person, behind in zip(row, row[1:], row[2:])}


def all_seams(slates):
    return {(person, ahead, behind) for person in slates for ahead, behind in helper.doors(slates[person])}


def true_sayings(village, slates):
    """All sayings that somebody has heard of somebody else, that are so."""
    people = village.people()
    return [(one, other, True) for one in people for other in people
            if helper.rises(slates, helper.way(village, other, one))]


def fit_all(village, every, sayings):
    """All slates by which sayings are so."""
    return [slates for slates in every
            if all(helper.rises(slates, helper.way(village, other, one)) is heard for one, other, heard in sayings)]


class FewestSayings(helper.Told):

    def right_ones(self, village, slates):
        rows = [thread_by_hand(village, slates, person) for person in village.people()]
        long = [row for row in rows if len(row) > 2]
        told = fewest_sayings(village, slates)
        self.assertTold(told, [(row[-1], row[0], True) for row in long])
        firsts = first_seams(village, slates)
        self.assertTold(firsts, [(row[1], row[0], row[2]) for row in long])
        self.assertIs(leaves_one(village, slates, told), True)
        self.assertLessEqual(set(firsts), all_seams(slates))
        self.assertEqual(set().union(*[covered(village, saying) for saying in told]), all_seams(slates))
        return told, firsts

    def test_all_slates(self):
        for village in helper.small_villages(2021):
            every = helper.all_slates(village)
            for slates in every[::1 + len(every) // 12]:
                told, firsts = self.right_ones(village, slates)
                self.assertEqual(fit_all(village, every, told), [slates])
                # no saying that is so covers two of the first seams
                sayings = true_sayings(village, slates)
                self.assertTrue(all(len(covered(village, one) & set(firsts)) < 2 for one in sayings))
                # none fewer are enough
                far = [one for one in sayings if len(helper.way(village, *one[:2])) > 2]
                if len(far) < 9:
                    for some in itertools.combinations(far, max(0, len(told) - 1)):
                        self.assertTrue(len(told) == 0 or len(fit_all(village, every, some)) > 1)
                for saying in told:
                    left = [one for one in told if one != saying]
                    self.assertIs(leaves_one(village, slates, left), False)

    def test_leaves_one(self):
        drawn = random.Random(2022)
        found = set()
        for village in helper.small_villages(2023):
            every = helper.all_slates(village)
            for number in range(8):
                slates = drawn.choice(every)
                sayings = true_sayings(village, slates)
                some = drawn.choices(sayings, k=drawn.randint(0, 2 * len(village.people())))
                left = fit_all(village, every, some) == [slates]
                self.assertIs(leaves_one(village, helper.as_tuples(slates), [list(one) for one in some]), left)
                self.assertIs(leaves_one(village, slates, tuple(sayings)), True)
                found.add(left)
                people = village.people()
                wild = some + [(drawn.choice(people), drawn.choice(people), True)]
                self.assertIs(leaves_one(village, slates, wild), fit_all(village, every, wild) == [slates])
        self.assertEqual(found, {True, False})

    def test_great_villages(self):
        for seed, village in enumerate(helper.great_villages(2024)):
            slates = helper.drawn_slates(village, seed)
            told, firsts = self.right_ones(village, slates)
            for saying in told[::9]:
                self.assertEqual(len(covered(village, saying) & set(firsts)), 1)
                self.assertIs(leaves_one(village, slates, [one for one in told if one != saying]), False)

    def test_one_person_and_two(self):
        for function in (fewest_sayings, first_seams):
            self.assertTold(function(ALONE, {"a": []}), [])
            self.assertTold(function(TWO, BOTH), [])
        self.assertIs(leaves_one(ALONE, {"a": []}, []), True)
        self.assertIs(leaves_one(TWO, BOTH, ()), True)
        self.assertIs(leaves_one(TWO, BOTH, [("a", "b", True), ("a", "a", True)]), True)
        self.assertIs(leaves_one(EXAMPLE, SLATES, []), False)

    def test_sayings_that_are_not_so(self):
        right = [("d", "b", True), ("a", "c", True)]
        self.assertIs(leaves_one(EXAMPLE, SLATES, right), True)
        self.assertIs(leaves_one(EXAMPLE, SLATES, right + [("d", "a", True)]), False)
        self.assertIs(leaves_one(EXAMPLE, SLATES, [("c", "a", True)] + right), False)

    def test_bad_sayings_and_not_heard(self):
        right = ("d", "b", True)
        wrong = [(thing, 0) for thing in helper.any_objects() if thing not in ([], ())]
        wrong += [([right, ("d", "b", 1)], 1), ([("a", "b", False), ("a", "e", True)], 1), ("ab", 0), ([right, None], 1)]
        for thing, index in wrong:
            self.assertRaisesJust(BadSayings, {"index": index}, leaves_one, EXAMPLE, SLATES, thing)
        for thing, index in (([right, ("a", "d", False)], 1), ([("a", "b", False)], 0), ([("a", "d", True), right, ("a", "d", False)], 2),
                             ([["a", "c", False], ("a", "d", False)], 0)):
            self.assertRaisesJust(NotHeard, {"index": index}, leaves_one, EXAMPLE, SLATES, thing)

    def test_errors_in_order(self):
        for function, more in ((fewest_sayings, ()), (first_seams, ()), (leaves_one, (None,))):
            for thing in helper.any_objects():
                if not isinstance(thing, Village):
                    self.assertRaisesJust(BadVillage, {"thing": thing}, function, thing, None, *more)
                self.assertRaisesJust(BadSlates, {"slates": thing}, function, EXAMPLE, thing, *more)

    def test_example(self):
        self.assertTold(fewest_sayings(EXAMPLE, SLATES), [("d", "b", True), ("a", "c", True)])
        self.assertTold(first_seams(EXAMPLE, SLATES), [("c", "b", "d"), ("b", "c", "a")])
