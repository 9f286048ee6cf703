"""Points 17.3 to 17.5 and what 17.6 has of them: chances, of just these, of how many, and mean ledgers."""

import fractions
import itertools
import math
import random

from heardsince.chances import chance, chance_given, chance_told, mean_ledger
from heardsince.chancespreads import chance_just, spread
from heardsince.errors import BadSome, BadVillage, NoPerson
from heardsince.refusals import BadBy, BadKnown
from heardsince.villages import Village
from tests import helper
from tests.test_allhearers import ALONE, EXAMPLE, TWO, heard_by

BY = ("calendars", "slates")


def told_fraction(part):
    return (part.numerator, part.denominator)


def chance_by_words(village, by, person, some):
    """The chance as the point tells it, as a fraction."""
    ways = {other: helper.way(village, person, other) for other in some}
    among = {one: 0 for row in ways.values() for one in row[1:]}
    # of each one among them who is behind, and which friends are
    beside = {one: set() for one in among}
    for other in among:
        row = helper.way(village, person, other)
        for one in row[1:]:
            among[one] += 1
        for ahead, behind in helper.doors(row[1:]):
            beside[ahead].add(behind)
    if by == "calendars":
        return fractions.Fraction(1, math.prod(among.values()))
    return fractions.Fraction(1, math.prod(1 + len(friends) for friends in beside.values()))


def just_by_slates(village, person, some):
    """The chance to have heard of just some, that hang together, by going through their slates."""
    part = fractions.Fraction(1)
    for one in some:
        if one != person:
            near = set(helper.friends(village)[one]) - {helper.way(village, one, person)[1]}
            inside = len(near & set(some))
            part *= fractions.Fraction(math.factorial(inside) * math.factorial(len(near) - inside),
                                       math.factorial(len(near) + 1))
    return part


class Chances(helper.Told):
    """17.3."""

    def test_all_calendars_and_slates(self):
        for village in helper.small_villages(1711):
            for by in BY:
                every = heard_by(village, by)
                for person in village.people():
                    for some in helper.subsets(village.people())[::1 + len(village.people()) // 5]:
                        right = helper.part_of(lambda heard: heard[person] >= set(some), every)
                        self.assertTold(chance(village, by, person, some), right)
                        self.assertTold(chance(village, by, person, tuple(some[::-1])), right)
                        right = helper.part_of(lambda heard: all(person in heard[one] for one in some), every)
                        self.assertTold(chance_told(village, by, person, some), right)

    def test_given(self):
        for village in helper.small_villages(1712):
            lots = helper.subsets(village.people())
            for by in BY:
                every = heard_by(village, by)
                for place, person in enumerate(village.people()):
                    for some, known in list(itertools.product(lots, lots))[place::1 + 5 * (len(lots) // 8)]:
                        those = [heard for heard in every if heard[person] >= set(known)]
                        right = helper.part_of(lambda heard: heard[person] >= set(some), those)
                        self.assertTold(chance_given(village, by, person, some, known), right)

    def test_great_villages(self):
        drawn = random.Random(1713)
        for village in helper.great_villages(1714):
            for person in village.people()[::23]:
                for by in BY:
                    for many in (0, 1, 2, 7, 30, 60):
                        some, known = drawn.sample(village.people(), many), drawn.sample(village.people(), many)
                        right = chance_by_words(village, by, person, some)
                        self.assertTold(chance(village, by, person, some), told_fraction(right))
                        self.assertTold(chance_told(village, by, person, some), told_fraction(right))
                        right = chance_by_words(village, by, person, some + known) / chance_by_words(village, by, person, known)
                        self.assertTold(chance_given(village, by, person, some, known), told_fraction(right))

    def test_doors_away(self):
        village = helper.row_village(60)
        people = village.people()
        for doors in range(1, 60):
            self.assertTold(chance(village, "calendars", people[0], [people[doors]]), (1, math.factorial(doors)))
            self.assertTold(chance(village, "slates", people[0], [people[doors]]), (1, 2 ** (doors - 1)))

    def test_nobody_and_oneself(self):
        for by in BY:
            self.assertTold(chance(EXAMPLE, by, "a", []), (1, 1))
            self.assertTold(chance(ALONE, by, "a", ["a"]), (1, 1))
            self.assertTold(chance_told(TWO, by, "a", ("a", "b")), (1, 1))
            self.assertTold(chance_given(EXAMPLE, by, "a", ["d"], []), chance(EXAMPLE, by, "a", ["d"]))
            self.assertTold(chance_given(EXAMPLE, by, "a", [], ["d"]), (1, 1))
            self.assertTold(chance_given(EXAMPLE, by, "a", ["c"], ["d"]), (1, 1))


class JustThese(helper.Told):
    """17.4."""

    def test_all_calendars_and_slates(self):
        for village in helper.small_villages(1715):
            for by in BY:
                every = heard_by(village, by)
                for person in village.people():
                    for some in helper.subsets(village.people()):
                        right = helper.part_of(lambda heard: heard[person] == set(some), every)
                        self.assertTold(chance_just(village, by, person, some[::-1]), right)

    def test_chances_of_great_lots_add_up(self):
        # what hangs together in a row is all from one to another one
        village = helper.row_village(60)
        people = village.people()
        for by in BY:
            for place in (0, 1, 30):
                parts = [chance_just(village, by, people[place], people[low:high]) for low in range(place + 1)
                         for high in range(place + 1, 61)]
                self.assertEqual(sum(fractions.Fraction(*part) for part in parts), 1)

    def test_great_villages(self):
        drawn = random.Random(1716)
        for village in helper.great_villages(1717):
            near = helper.friends(village)
            for person in village.people()[::29]:
                some = [person] + near[person]
                further = [one for one in village.people() if one not in some]
                while further:
                    beside = [one for one in further if set(near[one]) & set(some)]
                    some += drawn.sample(beside, min(len(beside), 1 + len(beside) // 3))
                    further = [one for one in village.people() if one not in some]
                    right = just_by_slates(village, person, some)
                    self.assertTold(chance_just(village, "slates", person, some), told_fraction(right))
                    part = fractions.Fraction(*chance_just(village, "calendars", person, some))
                    self.assertTrue(0 < part <= chance_by_words(village, "calendars", person, some))
                    if not further:
                        self.assertEqual(part, chance_by_words(village, "calendars", person, some))

    def test_what_cannot_be(self):
        for by in BY:
            for some in ([], ["b"], ["a"], ["a", "c"], ["a", "b", "d"], ["b", "c", "d"], ["a", "c", "d"]):
                self.assertTold(chance_just(EXAMPLE, by, "a", some), (0, 1))
            self.assertTold(chance_just(ALONE, by, "a", ["a"]), (1, 1))
            self.assertTold(chance_just(ALONE, by, "a", []), (0, 1))
            self.assertTold(chance_just(TWO, by, "a", ["b", "a"]), (1, 1))


class OfHowMany(helper.Told):
    """17.5."""

    def test_all_calendars_and_slates(self):
        for village in helper.small_villages(1718):
            own = dict(zip(village.people(), village.news()))
            for by in BY:
                every = heard_by(village, by)
                means = {}
                for person in village.people():
                    numbers = sorted({len(heard[person]) for heard in every})
                    right = {many: helper.part_of(lambda heard: len(heard[person]) == many, every) for many in numbers}
                    self.assertTold(spread(village, by, person), right)
                    total = sum(own[one] for heard in every for one in heard[person])
                    means[person] = told_fraction(fractions.Fraction(total, len(every)))
                self.assertTold(mean_ledger(village, by), means)

    def right_spread(self, village, by, person):
        told = {many: fractions.Fraction(*part) for many, part in spread(village, by, person).items()}
        self.assertEqual(list(told), sorted(told))
        self.assertEqual(sum(told.values()), 1)
        self.assertTrue(all(part > 0 for part in told.values()))
        # told in another way: the mean is the sum of the chances to hear of each
        mean = sum(chance_by_words(village, by, person, [other]) for other in village.people())
        self.assertEqual(sum(many * part for many, part in told.items()), mean)
        self.assertEqual(told[len(village.people())], chance_by_words(village, by, person, village.people()))
        least = 1 + len(helper.friends(village)[person])
        self.assertEqual(list(told), list(range(least, len(village.people()) + 1)))

    def test_spreads_of_great_villages(self):
        for village in [helper.row_village(30), helper.star_village(30)] + helper.some_villages(30, 3, 1719):
            for person in village.people()[::9] + village.people()[-1:]:
                self.right_spread(village, "calendars", person)
        for village in helper.great_villages(1720):
            for person in village.people()[::19] + village.people()[-1:]:
                self.right_spread(village, "slates", person)
        self.right_spread(helper.star_village(60), "calendars", "a")
        self.right_spread(helper.row_village(60), "calendars", "f")

    def test_means_of_great_villages(self):
        for village in helper.great_villages(1721):
            for by in BY:
                told = mean_ledger(village, by)
                self.assertEqual(list(told), village.people())
                for person in village.people()[::17]:
                    right = sum(own * chance_by_words(village, by, person, [other])
                                for other, own in zip(village.people(), village.news()))
                    self.assertTold(told[person], told_fraction(right))

    def test_one_person_and_two(self):
        for by in BY:
            self.assertTold(spread(ALONE, by, "a"), {1: (1, 1)})
            self.assertTold(spread(TWO, by, "b"), {2: (1, 1)})
            self.assertTold(mean_ledger(ALONE, by), {"a": (7, 1)})
            self.assertTold(mean_ledger(TWO, by), {"a": (5, 1), "b": (5, 1)})


class Errors(helper.Told):

    calls = ((chance, (None,)), (chance_told, (None,)), (chance_given, (None, None)), (chance_just, (None,)),
             (spread, ()))

    def test_bad_some_and_known(self):
        wrong = [(thing, 0) for thing in helper.any_objects()
                 if thing not in ([], ()) and not (isinstance(thing, list) and thing[:1] == ["a"])]
        wrong += [(["a", "a"], 1), (("b", "a", "b"), 2), (["a", "e"], 1), (["a", ["b"]], 1), ("ab", 0), (["a", None], 1)]
        for by in BY:
            for thing, index in wrong:
                for function, more in ((chance, ()), (chance_told, ()), (chance_given, (None,)), (chance_just, ())):
                    self.assertRaisesJust(BadSome, {"index": index}, function, EXAMPLE, by, "a", thing, *more)
                self.assertRaisesJust(BadKnown, {"index": index}, chance_given, EXAMPLE, by, "a", ["a"], thing)

    def test_errors_in_order(self):
        for function, more in self.calls:
            for thing in helper.any_objects():
                if not isinstance(thing, Village):
                    self.assertRaisesJust(BadVillage, {"thing": thing}, function, thing, None, None, *more)
                self.assertRaisesJust(BadBy, {"by": thing}, function, EXAMPLE, thing, None, *more)
                for by in BY:
                    self.assertRaisesJust(NoPerson, {"person": thing}, function, EXAMPLE, by, thing, *more)
        for thing in helper.any_objects():
            self.assertRaisesJust(BadBy, {"by": thing}, mean_ledger, EXAMPLE, thing)
            if not isinstance(thing, Village):
                self.assertRaisesJust(BadVillage, {"thing": thing}, mean_ledger, thing, None)


class Example(helper.Told):
    """17.6, what it has of chances."""

    def test_example(self):
        self.assertTold([chance(EXAMPLE, by, "a", ["d"]) for by in BY], [(1, 6), (1, 4)])
        self.assertTold([chance_given(EXAMPLE, by, "a", ["d"], ["c"]) for by in BY], [(1, 3), (1, 2)])
        self.assertTold([chance_just(EXAMPLE, by, "a", ["a", "b", "c"]) for by in BY], [(1, 3), (1, 4)])
        self.assertTold(spread(EXAMPLE, "calendars", "a"), {2: (1, 2), 3: (1, 3), 4: (1, 6)})
        self.assertTold([mean_ledger(EXAMPLE, by)["a"] for by in BY], [(8, 3), (11, 4)])
        self.assertTold([mean_ledger(EXAMPLE, by)["b"] for by in BY], [(7, 2), (7, 2)])
