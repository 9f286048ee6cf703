"""Points 15.4 to 15.7 and what 15.8 has of them: observers, what is alike for them, seams, and the fewest."""

import itertools
import math
import random

from heardsince.errors import BadLot, BadSlates, BadVillage, NoPerson
from heardsince.observers import (apart_people, apart_seams, are_alike_for, count_alike, fewest_hearers,
                                  fewest_observers, known_chance, knows_all, seams, seers, stretches)
from heardsince.refusals import BadSeam
from heardsince.villages import Village
from tests import helper
from tests.test_views import ALONE, EXAMPLE, SLATES, STAR, STAR_SLATES, TWO

BACK = {"a": ["b"], "b": ["a", "c"], "c": ["b", "d"], "d": ["c"]}


def views_together(village, slates, lot):
    """What some observers know together."""
    return repr([helper.view_by_hand(village, slates, person) for person in lot])


def seams_by_hand(village, slates):
    return [(person, ahead, behind) for person in village.people() for ahead, behind in helper.doors(slates[person])]


def seers_by_hand(village, slates, seam):
    """Who is a seam's person, or has heard of its person by way of one of both friends."""
    person = seam[0]
    found = [person]
    for one in village.people():
        row = helper.way(village, person, one)
        if len(row) > 1 and row[1] in seam[1:] and helper.rises(slates, row):
            found.append(one)
    return [one for one in village.people() if one in found]


def stretches_by_words(village, slates, lot):
    """Stretches, by going through each friend's side."""
    found = {}
    for person in village.people():
        marked = []
        for friend in slates[person]:
            beyond = [one for one in lot if one != person and helper.way(village, person, one)[1] == friend]
            if person in lot or any(helper.rises(slates, helper.way(village, person, one)) for one in beyond):
                marked.append(friend)
        rows = itertools.groupby(slates[person], key=lambda friend: friend if friend in marked else None)
        found[person] = [sorted(row, key=village.people().index) for key, row in rows]
    return found


def lots_of(village, drawn, count):
    """Some lots of people, nobody and all among them."""
    people = village.people()
    every = [drawn.sample(people, drawn.randint(1, len(people))) for _ in range(count)]
    return [[], people[::-1]] + every


class Several(helper.Told):
    """15.4 and 15.5."""

    def test_all_lots_and_slates(self):
        drawn = random.Random(1511)
        for village in helper.villages(4) + helper.villages(5)[-40::10] + helper.some_villages(6, 1, 1512):
            every = helper.all_slates(village)
            for lot in lots_of(village, drawn, 2 + 4 * (len(village.people()) < 5)):
                known = [views_together(village, slates, lot) for slates in every]
                for place in range(drawn.randrange(3), len(every), 1 + len(every) // 8):
                    slates = every[place]
                    alike = [other for other, these in zip(every, known) if these == known[place]]
                    self.right_ones(village, slates, lot, every, alike)

    def right_ones(self, village, slates, lot, every, alike):
        rows = stretches(village, slates, lot)
        self.assertTold(rows, stretches_by_words(village, slates, lot))
        self.assertTold(stretches(village, slates, tuple(lot[::-1])), rows)
        self.assertTold(count_alike(village, slates, lot), len(alike))
        self.assertEqual(math.prod(math.factorial(len(row)) for one in rows for row in rows[one]), len(alike))
        self.assertIs(knows_all(village, slates, lot), len(alike) == 1)
        for others in every[::1 + len(every) // 12] + alike[::3]:
            self.assertIs(are_alike_for(village, slates, others, lot), others in alike)
            self.assertIs(repr(stretches(village, others, lot)) == repr(rows), others in alike)
        for one, other in itertools.product(village.people(), repeat=2):
            way = helper.way(village, other, one)
            self.assertTold(known_chance(village, slates, lot, one, other),
                            helper.part_of(lambda these: helper.rises(these, way), alike))

    def test_great_villages(self):
        drawn = random.Random(1513)
        for seed, village in enumerate(helper.great_villages(1514)):
            slates = helper.drawn_slates(village, seed)
            for lot in lots_of(village, drawn, 2):
                rows = stretches(village, slates, lot)
                self.assertTold(rows, stretches_by_words(village, slates, lot))
                many = math.prod(math.factorial(len(row)) for one in rows for row in rows[one])
                self.assertTold(count_alike(village, slates, lot), many)
                self.assertIs(knows_all(village, slates, lot), many == 1)
                others = {person: [friend for row in rows[person] for friend in row] for person in rows}
                self.assertIs(are_alike_for(village, slates, others, lot), True)
                self.assertTold(stretches(village, others, lot), rows)
                for one, other in [drawn.choices(village.people(), k=2) for _ in range(20)]:
                    way = helper.way(village, other, one)
                    part = known_chance(village, slates, lot, one, other)
                    self.assertNotEqual(part, (0, 1) if helper.rises(slates, way) else (1, 1))

    def test_nobody_and_everybody(self):
        for seed, village in enumerate(helper.great_villages(1515)):
            slates = helper.drawn_slates(village, seed)
            near = helper.friends(village)
            none = {person: [near[person]] if near[person] else [] for person in near}
            self.assertTold(stretches(village, slates, []), none)
            alone = {person: [[friend] for friend in slates[person]] for person in village.people()}
            self.assertTold(stretches(village, slates, village.people()), alone)
            self.assertTold(count_alike(village, slates, village.people()), 1)
            self.assertIs(are_alike_for(village, slates, helper.turned_about(slates), []), True)
            self.assertIs(are_alike_for(village, slates, helper.turned_about(slates), village.people()), False)

    def test_one_person_and_two(self):
        for lot in ([], ["a"]):
            self.assertTold(stretches(ALONE, {"a": []}, lot), {"a": []})
            self.assertTold(count_alike(ALONE, {"a": []}, lot), 1)
            self.assertTold(known_chance(ALONE, {"a": []}, lot, "a", "a"), (1, 1))
            self.assertIs(are_alike_for(ALONE, {"a": []}, {"a": ()}, lot), True)
            self.assertIs(knows_all(ALONE, {"a": []}, lot), True)
        self.assertTold(stretches(TWO, {"a": ["b"], "b": ["a"]}, ["b"]), {"a": [["b"]], "b": [["a"]]})


class Seams(helper.Told):
    """15.6 and 15.7."""

    def right_ones(self, village, slates):
        every = seams_by_hand(village, slates)
        self.assertTold(seams(village, slates), every)
        seeing = [seers_by_hand(village, slates, seam) for seam in every]
        for seam, right in zip(every, seeing):
            self.assertTold(seers(village, slates, seam), right)
        hearing = [[one for one in village.people() if helper.rises(slates, helper.way(village, person, one))]
                   for person in village.people()]
        self.right_pair(village, fewest_observers(village, slates), apart_seams(village, slates), every, seeing)
        self.right_pair(village, fewest_hearers(village, slates), apart_people(village, slates), village.people(),
                        hearing)
        self.assertIs(knows_all(village, slates, fewest_observers(village, slates)), True)
        return seeing, hearing

    def right_pair(self, village, lot, apart, things, among):
        """That a lot has one of each thing's people, that no two things have one in common, and that they are as many.
        """
        self.assertTold(lot, [person for person in village.people() if person in lot])
        self.assertTold(apart, [thing for thing in things if thing in apart])
        self.assertTrue(all(set(lot) & set(people) for people in among))
        rows = [set(people) for thing, people in zip(things, among) if thing in apart]
        self.assertFalse(any(one & other for one, other in itertools.combinations(rows, 2)))
        # by this alone both are as few, and as many, as can be
        self.assertEqual(len(lot), len(apart))

    def test_all_slates(self):
        for village in helper.villages(4) + helper.villages(5)[-60::6] + helper.some_villages(7, 3, 1516):
            for slates in helper.all_slates(village)[::1 + 2 * (len(village.people()) // 5)][:150]:
                seeing, hearing = self.right_ones(village, slates)
                for lots, told in ((seeing, fewest_observers), (hearing, fewest_hearers)):
                    least = min(len(lot) for lot in helper.subsets(village.people())
                                if all(set(lot) & set(people) for people in lots))
                    self.assertEqual(len(told(village, slates)), least)

    def test_knows_all(self):
        for village in helper.villages(4):
            for slates in helper.all_slates(village):
                seeing = [seers_by_hand(village, slates, seam) for seam in seams_by_hand(village, slates)]
                for lot in helper.subsets(village.people()):
                    self.assertIs(knows_all(village, slates, lot), all(set(lot) & set(ones) for ones in seeing))

    def test_great_villages(self):
        for seed, village in enumerate(helper.great_villages(1517)):
            self.right_ones(village, helper.drawn_slates(village, seed))
        # each one has heard of the two beside them at most
        village = helper.row_village(60)
        people = village.people()
        slates = {one: ([people[at - 1]] if at % 2 and at else []) + people[at + 1:at + 2]
                  + ([] if at % 2 or not at else [people[at - 1]]) for at, one in enumerate(people)}
        self.right_ones(village, slates)
        self.assertGreater(len(fewest_hearers(village, slates)), 14)

    def test_one_person_and_two(self):
        for function in (seams, fewest_observers, apart_seams):
            self.assertTold(function(ALONE, {"a": []}), [])
            self.assertTold(function(TWO, {"a": ["b"], "b": ["a"]}), [])
        for function in (fewest_hearers, apart_people):
            self.assertTold(function(ALONE, {"a": []}), ["a"])
            self.assertIn(function(TWO, {"a": ["b"], "b": ["a"]}), (["a"], ["b"]))

    def test_what_is_no_seam(self):
        self.assertTold(seers(EXAMPLE, SLATES, ["b", "c", "a"]), ["a", "b", "c", "d"])
        for thing in helper.any_objects() + [("b", "a", "c"), ("b", "c", "a", "d"), ("b", "c"), ("a", "b", "b"), "bca",
                                             ("e", "c", "a"), ("b", "c", ["a"]), [["b"], "c", "a"], ("c", "b", "b")]:
            self.assertRaisesJust(BadSeam, {"seam": thing}, seers, EXAMPLE, SLATES, thing)
        self.assertRaisesJust(BadSeam, {"seam": ("x", "a", "c")}, seers, STAR, STAR_SLATES, ("x", "a", "c"))


class Errors(helper.Told):

    def test_bad_lot(self):
        wrong = [(thing, 0) for thing in helper.any_objects()
                 if thing not in ([], ()) and not (isinstance(thing, list) and thing[:1] == ["a"])]
        wrong += [(["a", "a"], 1), (("b", "a", "b"), 2), (["a", "e"], 1), (["a", ["b"]], 1), ("ab", 0), (["a", None], 1)]
        calls = ((stretches, (SLATES,), ()), (are_alike_for, (SLATES, BACK), ()), (count_alike, (SLATES,), ()),
                 (known_chance, (SLATES,), (None, None)), (knows_all, (SLATES,), ()))
        for function, ahead, behind in calls:
            for thing, index in wrong:
                self.assertRaisesJust(BadLot, {"index": index}, function, EXAMPLE, *ahead, thing, *behind)

    def test_errors_in_order(self):
        calls = ((stretches, (None,)), (are_alike_for, (None, None)), (count_alike, (None,)), (seams, ()),
                 (known_chance, (None, None, None)), (seers, (None,)), (knows_all, (None,)), (fewest_observers, ()),
                 (apart_seams, ()), (fewest_hearers, ()), (apart_people, ()))
        for function, more in calls:
            for thing in helper.any_objects():
                if not isinstance(thing, Village):
                    self.assertRaisesJust(BadVillage, {"thing": thing}, function, thing, None, *more)
                self.assertRaisesJust(BadSlates, {"slates": thing}, function, EXAMPLE, thing, *more)
        for thing in helper.any_objects():
            self.assertRaisesJust(BadSlates, {"slates": thing}, are_alike_for, EXAMPLE, SLATES, thing, None)
            self.assertRaisesJust(NoPerson, {"person": thing}, known_chance, EXAMPLE, SLATES, ["a"], thing, None)
            self.assertRaisesJust(NoPerson, {"person": thing}, known_chance, EXAMPLE, SLATES, ["a"], "b", thing)


class Example(helper.Told):
    """15.8, what it has of observers."""

    def test_example(self):
        self.assertTold(stretches(STAR, STAR_SLATES, ["a"])["x"], [["a"], ["b", "c"]])
        self.assertTold(seams(STAR, STAR_SLATES), [("x", "a", "b"), ("x", "b", "c")])
        self.assertTold(seers(STAR, STAR_SLATES, ("x", "a", "b")), ["x", "a", "b"])
        self.assertTold(seers(STAR, STAR_SLATES, ("x", "b", "c")), ["x", "b", "c"])
        self.assertIn(fewest_observers(STAR, STAR_SLATES), (["b"], ["x"]))
        self.assertIs(knows_all(STAR, STAR_SLATES, ["b"]), True)
        self.assertIs(knows_all(STAR, STAR_SLATES, ["a"]), False)
        self.assertTold(len(fewest_hearers(STAR, STAR_SLATES)), 1)
        self.assertIs(knows_all(EXAMPLE, SLATES, ["a"]), True)
        self.assertTold(count_alike(EXAMPLE, SLATES, ["a"]), 1)
