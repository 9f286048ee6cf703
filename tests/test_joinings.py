"""Points 19.1 to 19.4 and what 19.8 has of them: porches, villages joined and parted, somebody put between."""

import random

from heardsince.calendars import is_slates
from heardsince.errors import BadSlates, BadVillage, NoPerson, NotFriends
from heardsince.joinings import (between, between_slates, gainers, is_porch, joined, joined_slates, parted, porch_gift,
                                 porch_people, porches_of)
from heardsince.refusals import BadName, BadPorch, CommonPerson
from heardsince.villages import Village
from tests import helper

EXAMPLE = helper.example_village()
SLATES = helper.EXAMPLE_SLATES
ALONE = Village(["a"], [], [7])
TWO = Village(["a", "b"], [("b", "a")], [2, 3])
BOTH = {"a": ["b"], "b": ["a"]}
PORCH = (SLATES, "b", 1)
OTHER = Village(["x", "y", "z"], [("y", "x"), ("y", "z")], [4, 5, 6])
ENTRY = ({"x": ["y"], "y": ["z", "x"], "z": ["y"]}, "y", 1)


def renamed_village(village):
    """A village as another one, with other names."""
    return Village([name[:7] + "2" for name in village.people()],
                   [(one[:7] + "2", other[:7] + "2") for one, other in village.ties()],
                   [more + 3 for more in village.news()])


def porches(village, slates):
    return [(slates, person, place) for person in village.people() for place in range(len(slates[person]) + 1)]


def ahead_and_behind(village, porch):
    """Of whom the person of a porch would tell there, and to whom goes on what is told, by ways."""
    slates, person, place = porch
    ahead, behind = slates[person][:place], slates[person][place:]
    told, gaining = [], []
    for one in village.people():
        row = helper.way(village, one, person)
        if one == person or row[-2] in ahead and helper.rises(slates, row):
            told.append(one)
        if one == person or row[-2] in behind and helper.rises(slates, row[::-1]):
            gaining.append(one)
    return told, gaining


def small_pairs(seed, count):
    """Pairs of small villages with porches of both."""
    drawn = random.Random(seed)
    small = helper.small_villages(seed)
    for _ in range(count):
        first, second = drawn.choice(small), renamed_village(drawn.choice(small))
        slates = [helper.drawn_slates(village, drawn.random()) for village in (first, second)]
        yield first, second, drawn.choice(porches(first, slates[0])), drawn.choice(porches(second, slates[1]))


def great_pairs(seed):
    drawn = random.Random(seed)
    for village in [helper.row_village(30), helper.star_village(30)] + helper.some_villages(30, 2, seed, 10 ** 15):
        for second in [helper.row_village(30), helper.star_village(30)] + helper.some_villages(30, 2, seed + 1):
            other = renamed_village(second)
            slates = [helper.drawn_slates(one, seed) for one in (village, other)]
            yield village, other, drawn.choice(porches(village, slates[0])), drawn.choice(porches(other, slates[1]))


class Porches(helper.Told):
    """19.1."""

    def right_ones(self, village, porch):
        told, gaining = ahead_and_behind(village, porch)
        self.assertIs(is_porch(village, porch), True)
        self.assertIs(is_porch(village, list(helper.as_tuples(porch))), True)
        self.assertTold(porch_people(village, porch), told)
        news = dict(zip(village.people(), village.news()))
        self.assertTold(porch_gift(village, porch), sum(news[one] for one in told))
        self.assertTold(gainers(village, porch), gaining)

    def test_all_porches(self):
        for village in helper.small_villages(1901):
            for slates in helper.all_slates(village)[::1 + 2 * (len(village.people()) // 5)]:
                for porch in porches(village, slates):
                    self.right_ones(village, porch)

    def test_great_villages(self):
        for seed, village in enumerate(helper.great_villages(1902)):
            for porch in porches(village, helper.drawn_slates(village, seed))[::9]:
                self.right_ones(village, porch)

    def test_what_is_no_porch(self):
        for thing in helper.any_objects() + [(SLATES, "b"), (SLATES, "b", 3), (SLATES, "b", -1), (SLATES, "a", 2),
                                             (SLATES, "b", True), (SLATES, "e", 0), (SLATES, ["b"], 0), (SLATES, None, 0),
                                             ({**SLATES, "a": []}, "b", 0), (None, "b", 0), (SLATES, "b", 1, 1),
                                             (SLATES, "b", "1"), (SLATES, "b", None)]:
            self.assertIs(is_porch(EXAMPLE, thing), False, thing)
        for place in range(3):
            self.assertIs(is_porch(EXAMPLE, (SLATES, "b", place)), True)
        self.assertIs(is_porch(ALONE, ({"a": []}, "a", 0)), True)
        self.assertIs(is_porch(ALONE, ({"a": []}, "a", 1)), False)

    def test_bad_porch(self):
        for function in (porch_people, porch_gift, gainers):
            for thing in helper.any_objects() + [(SLATES, "b", 3), (SLATES, "b", True)]:
                self.assertRaisesJust(BadPorch, {"porch": thing}, function, EXAMPLE, thing)
        for function in (porch_people, porch_gift, gainers, is_porch):
            for thing in helper.any_objects():
                if not isinstance(thing, Village):
                    self.assertRaisesJust(BadVillage, {"thing": thing}, function, thing, None)


class Joined(helper.Told):
    """19.2."""

    def right_ones(self, first, second, porch, entry):
        village = joined(first, second, porch, entry)
        tie = (porch[1], entry[1])
        self.assertEqual(village, Village(first.people() + second.people(), first.ties() + second.ties() + [tie],
                                          first.news() + second.news()))
        slates = joined_slates(first, second, porch, entry)
        self.assertIs(is_slates(village, slates), True)
        right = {person: list(slate) for person, slate in [*porch[0].items(), *entry[0].items()]}
        right[porch[1]] = right[porch[1]][:porch[2]] + [entry[1]] + right[porch[1]][porch[2]:]
        right[entry[1]] = right[entry[1]][:entry[2]] + [porch[1]] + right[entry[1]][entry[2]:]
        self.assertTold(slates, {person: right[person] for person in village.people()})
        # just the gainers of each side have heard of just the porch people of the other one
        heard = helper.simulated(village, helper.any_calendar(village, slates))
        for one, other, mine, theirs in ((first, second, porch, entry), (second, first, entry, porch)):
            gaining, told = gainers(one, mine), porch_people(other, theirs)
            for person in one.people():
                beyond = [another for another in other.people() if another in heard[person]]
                self.assertEqual(beyond, told if person in gaining else [])

    def test_small_villages(self):
        for case in small_pairs(1903, 300):
            self.right_ones(*case)

    def test_great_villages(self):
        for case in great_pairs(1904):
            self.right_ones(*case)

    def test_one_and_one(self):
        other = Village(["b"], [], [2])
        porch, entry = ({"a": []}, "a", 0), ({"b": []}, "b", 0)
        self.assertEqual(joined(ALONE, other, porch, entry), Village(["a", "b"], [("a", "b")], [7, 2]))
        self.assertTold(joined_slates(ALONE, other, porch, entry), BOTH)

    def test_errors_in_order(self):
        for function in (joined, joined_slates):
            for thing in helper.any_objects():
                if not isinstance(thing, Village):
                    self.assertRaisesJust(BadVillage, {"thing": thing}, function, thing, None, None, None)
                    self.assertRaisesJust(BadVillage, {"thing": thing}, function, EXAMPLE, thing, None, None)
                self.assertRaisesJust(BadPorch, {"porch": thing}, function, EXAMPLE, OTHER, thing, None)
                self.assertRaisesJust(BadPorch, {"porch": thing}, function, EXAMPLE, OTHER, PORCH, thing)
            # a porch of the other village is none of this one
            self.assertRaisesJust(BadPorch, {"porch": ENTRY}, function, EXAMPLE, OTHER, ENTRY, PORCH)
            common = Village(["q", "c", "b"], [("q", "c"), ("c", "b")], [1, 1, 1])
            entry = ({"q": ["c"], "c": ["q", "b"], "b": ["c"]}, "q", 0)
            try:
                function(EXAMPLE, common, PORCH, entry)
                self.fail()
            except CommonPerson as error:
                self.assertTold(vars(error), {"name": "b"})
            self.assertRaisesJust(BadPorch, {"porch": None}, function, EXAMPLE, common, PORCH, None)
            with self.assertRaises(CommonPerson) as caught:
                function(EXAMPLE, EXAMPLE, PORCH, PORCH)
            self.assertEqual(caught.exception.name, "a")


class Parted(helper.Told):
    """19.3."""

    def right_ones(self, village, slates, one, other):
        told = parted(village, one, other)
        self.assertIs(type(told), tuple)
        news = dict(zip(village.people(), village.news()))
        for part, here, there in zip(told, (one, other), (other, one)):
            side = [person for person in village.people() if there not in helper.way(village, person, here)]
            ties = [tie for tie in village.ties() if set(tie) <= set(side)]
            self.assertEqual(part, Village(side, ties, [news[person] for person in side]))
        both = porches_of(village, slates, one, other)
        self.assertIs(type(both), tuple)
        for part, porch, here, there in zip(told, both, (one, other), (other, one)):
            self.assertIs(is_porch(part, porch), True)
            self.assertTold(porch, ({person: [friend for friend in slates[person] if friend != there or person != here]
                                     for person in part.people()}, here, list(slates[here]).index(there)))
        back = joined_slates(*told, *both)
        self.assertEqual(back, {person: list(slates[person]) for person in slates})
        whole = joined(*told, *both)
        self.assertEqual(sorted(whole.people()), sorted(village.people()))
        self.assertEqual({frozenset(tie) for tie in whole.ties()}, {frozenset(tie) for tie in village.ties()})

    def test_all_doors(self):
        for seed, village in enumerate(helper.small_villages(1905) + helper.great_villages(1906)):
            slates = helper.as_tuples(helper.drawn_slates(village, seed))
            ties = village.ties()
            for one, other in ties if len(ties) < 10 else ties[::9]:
                self.right_ones(village, slates, one, other)
                self.right_ones(village, slates, other, one)

    def test_errors_in_order(self):
        for thing in helper.any_objects():
            if not isinstance(thing, Village):
                self.assertRaisesJust(BadVillage, {"thing": thing}, parted, thing, None, None)
                self.assertRaisesJust(BadVillage, {"thing": thing}, porches_of, thing, None, None, None)
            self.assertRaisesJust(BadSlates, {"slates": thing}, porches_of, EXAMPLE, thing, None, None)
            for function, ahead in ((parted, ()), (porches_of, (SLATES,))):
                self.assertRaisesJust(NoPerson, {"person": thing}, function, EXAMPLE, *ahead, thing, "?")
                self.assertRaisesJust(NoPerson, {"person": thing}, function, EXAMPLE, *ahead, "a", thing)
        for function, ahead in ((parted, ()), (porches_of, (SLATES,))):
            self.assertRaisesJust(NotFriends, {"one": "a", "other": "c"}, function, EXAMPLE, *ahead, "a", "c")
            self.assertRaisesJust(NotFriends, {"one": "a", "other": "a"}, function, EXAMPLE, *ahead, "a", "a")


class PutBetween(helper.Told):
    """19.4."""

    def right_ones(self, village, slates, one, other):
        told = between(village, one, other, "new")
        ties = village.ties()
        place = [set(tie) for tie in ties].index({one, other})
        self.assertEqual(told, Village(village.people() + ["new"],
                                       ties[:place] + [(one, "new"), ("new", other)] + ties[place + 1:],
                                       village.news() + [1]))
        now = between_slates(village, slates, one, other, "new")
        right = {person: list(slates[person]) for person in village.people()}
        right[one][right[one].index(other)] = "new"
        right[other][right[other].index(one)] = "new"
        self.assertTold(now, {**right, "new": [one, other]})
        self.assertIs(is_slates(told, now), True)
        ahead = helper.simulated(village, helper.any_calendar(village, slates))
        behind = helper.simulated(told, helper.any_calendar(told, now))
        porch, entry = porches_of(village, slates, one, other)
        first, second = parted(village, one, other)
        mine, theirs = set(first.people()), set(second.people())
        gaining = set(gainers(first, porch) + gainers(second, entry))
        for person in mine:
            self.assertEqual(behind[person], ahead[person] & mine | ({"new"} if person in gaining else set()))
        for person in theirs:
            self.assertEqual(behind[person], ahead[person] | ({"new"} if person in gaining else set()))

    def test_all_doors(self):
        for seed, village in enumerate(helper.small_villages(1907) + [helper.row_village(59), helper.star_village(59)]
                                       + helper.some_villages(59, 2, 1908)):
            for number in range(2):
                slates = helper.drawn_slates(village, seed + number)
                for one, other in village.ties()[number::1 + len(village.ties()) // 8]:
                    self.right_ones(village, slates, one, other)
                    self.right_ones(village, slates, other, one)

    def test_bad_name(self):
        for function, ahead in ((between, ()), (between_slates, (SLATES,))):
            for thing in helper.any_objects() + ["a", "d", "ninesigns", "A", "1a", "", ["m"]]:
                self.assertRaisesJust(BadName, {"name": thing}, function, EXAMPLE, *ahead, "b", "c", thing)
            for thing in helper.any_objects():
                self.assertRaisesJust(NoPerson, {"person": thing}, function, EXAMPLE, *ahead, thing, "?", "a")
                self.assertRaisesJust(NoPerson, {"person": thing}, function, EXAMPLE, *ahead, "a", thing, "a")
                if not isinstance(thing, Village):
                    self.assertRaisesJust(BadVillage, {"thing": thing}, function, thing, *ahead, None, None, None)
            self.assertRaisesJust(NotFriends, {"one": "d", "other": "b"}, function, EXAMPLE, *ahead, "d", "b", "a")
        for thing in helper.any_objects():
            self.assertRaisesJust(BadSlates, {"slates": thing}, between_slates, EXAMPLE, thing, None, None, None)


class Example(helper.Told):
    """19.8, what it has of these."""

    def test_example(self):
        both = porches_of(EXAMPLE, SLATES, "b", "c")
        self.assertTold(both, (({"a": ["b"], "b": ["a"]}, "b", 0), ({"c": ["d"], "d": ["c"]}, "c", 0)))
        parts = parted(EXAMPLE, "b", "c")
        for part, porch in zip(parts, both):
            self.assertTold(porch_gift(part, porch), 1)
            self.assertTold(gainers(part, porch), part.people())
        numbers = {person: len(heard) for person, heard in helper.simulated(EXAMPLE, helper.EXAMPLE_CALENDAR).items()}
        self.assertEqual(numbers, {"a": 3, "b": 3, "c": 3, "d": 3})
        village, slates = between(EXAMPLE, "b", "c", "m"), between_slates(EXAMPLE, SLATES, "b", "c", "m")
        self.assertEqual(helper.numbers_by_hand(village, slates), {"a": 3, "b": 3, "m": 3, "c": 4, "d": 4})
