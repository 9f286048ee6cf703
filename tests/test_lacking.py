"""Points 7.1 to 7.3 and 7.6: ledgers in which numbers lack, or of which one is wrong."""

import itertools
import math
import random

from heardsince.errors import BadLedger, BadPart, BadVillage
from heardsince.lacking import missing_number, part_break, slates_by_part, suspects, sure_by_part
from heardsince.ledgers import ledger
from heardsince.villages import Village
from tests import helper
from tests.test_ledgers import all_numbers, goes_through, own_news

EXAMPLE = helper.example_village()
STAR = Village(["c", "x", "y", "z"], [("c", "x"), ("c", "y"), ("c", "z")], [1, 1, 1, 1])
ONE = (missing_number, part_break)
SOME = (slates_by_part, sure_by_part)


def ledgers_by_hand(village):
    """All pairs (ledger, slates), in the order of the document."""
    return [(helper.numbers_by_hand(village, slates), slates) for slates in helper.all_slates(village)]


def part_break_by_words(village, part):
    """The first person who does not fit, seen from the one who lacks, by trying all places of the friend further in."""
    own = own_news(village)
    people = village.people()
    middle = [person for person in people if person not in part][0]
    ways = {person: helper.way(village, person, middle) for person in people}
    told = {}
    for person in sorted(people, key=lambda one: (-len(ways[one]), people.index(one))):
        pairs = sorted(told[friend] for friend in told if ways[friend][1] == person)
        if person == middle:
            return None if goes_through(own[person], pairs) else (person, None, pairs)
        front = part[person] - own[person] - sum(gave for given, gave in pairs)
        rows = [pairs[:place] + [(None, front)] + pairs[place:] for place in range(len(pairs) + 1)]
        right = [row for row in rows if front >= 1 and goes_through(own[person], row)]
        assert len(right) <= 1
        if not right:
            return (person, front, pairs)
        place = right[0].index((None, front))
        told[person] = (front, own[person] + sum(gave for given, gave in right[0][:place]))


def without(numbers, *people):
    return {person: number for person, number in numbers.items() if person not in people}


def sure_by_words(village, every):
    """The triples that all of some slates have."""
    near = helper.friends(village)
    return [(person, one, other) for person in village.people() for one in near[person] for other in near[person]
            if one != other and every
            and all(slates[person].index(one) < slates[person].index(other) for slates in every)]


class AllButOne(helper.Told):
    """7.1: all but one number."""

    def test_the_number_that_lacks(self):
        for village in helper.villages(4) + helper.villages(5)[-70:] + helper.some_villages(6, 4, 51, 10 ** 15):
            for numbers, slates in ledgers_by_hand(village):
                for person in village.people():
                    part = without(numbers, person)
                    self.assertTold(missing_number(village, part), numbers[person])
                    self.assertTold(missing_number(village, dict(reversed(part.items()))), numbers[person])
                    self.assertIs(part_break(village, part), None)

    def test_all_numbers(self):
        cases = helper.villages(3)
        cases += [Village(list("badc"), ties, [1, 2, 1, 1]) for ties in helper.trees(list("badc"))]
        for village in cases:
            right = {}
            for numbers, slates in ledgers_by_hand(village):
                for person in village.people():
                    right.setdefault(repr(without(numbers, person)), []).append(numbers[person])
            self.assertEqual({len(found) for found in right.values()}, {1})
            for person in village.people():
                others = [one for one in village.people() if one != person]
                for numbers in itertools.product(range(sum(village.news()) + 2), repeat=len(others)):
                    part = dict(zip(others, numbers))
                    number = right.get(repr(part), [None])[0]
                    self.assertTold(missing_number(village, part), number)
                    broken = part_break(village, part)
                    self.assertTold(broken, part_break_by_words(village, part))
                    self.assertEqual(broken is None, number is not None)

    def test_numbers_otherwise(self):
        for seed, village in enumerate(helper.some_villages(9, 40, 52) + [helper.star_village(6)] * 3):
            numbers = ledger(village, helper.drawn_slates(village, seed))
            for person, lacking in itertools.permutations(village.people(), 2):
                for more in (-2, 1):
                    part = without({**numbers, person: max(0, numbers[person] + more)}, lacking)
                    broken = part_break(village, part)
                    self.assertTold(broken, part_break_by_words(village, part))
                    self.assertEqual(missing_number(village, part) is None, broken is not None)

    def test_rim_order_from_the_one_who_lacks(self):
        village = Village(list("cabed"), [("a", "b"), ("b", "c"), ("c", "d"), ("d", "e")], [1] * 5)
        zeros = {one: 0 for one in "abcde"}
        self.assertTold(part_break(village, without(zeros, "c")), ("a", -1, []))
        self.assertTold(part_break(village, without(zeros, "a")), ("e", -1, []))
        self.assertTold(part_break(village, without({**zeros, "e": 2}, "a")), ("d", -2, [(1, 1)]))
        self.assertTold(part_break(village, without(zeros, "e")), ("a", -1, []))
        self.assertTold(part_break(village, without({**zeros, "a": 5, "e": 2}, "b")), ("d", -2, [(1, 1)]))

    def test_one_person_and_two(self):
        alone = Village(["a"], [], [7])
        self.assertTold(missing_number(alone, {}), 7)
        self.assertIs(part_break(alone, {}), None)
        two = Village(["a", "b"], [("b", "a")], [2, 10 ** 15])
        self.assertTold(missing_number(two, {"b": 10 ** 15 + 2}), 10 ** 15 + 2)
        self.assertTold(missing_number(two, {"a": 10 ** 15 + 2}), 10 ** 15 + 2)
        self.assertTold(missing_number(two, {"a": 2}), None)
        self.assertTold(part_break(two, {"a": 2}), ("a", 0, []))
        self.assertTold(part_break(two, {"a": 3}), ("b", None, [(1, 2)]))

    def test_sixty_people(self):
        for seed, village in enumerate([helper.row_village(60, [10 ** 15] * 60), helper.star_village(60)]
                                       + helper.some_villages(60, 3, 53, 10 ** 15)):
            numbers = ledger(village, helper.drawn_slates(village, seed))
            for person in village.people()[::7] + village.people()[-1:]:
                part = without(numbers, person)
                self.assertTold(missing_number(village, part), numbers[person])
                other = village.people()[33]
                if other != person:
                    part[other] += 10 ** 17
                    self.assertIs(missing_number(village, part), None)
                    self.assertTold(part_break(village, part), part_break_by_words(village, part))

    def test_bad_part(self):
        right = {"a": 3, "b": 3, "c": 3}
        wrong = helper.any_objects() + [{**right, "d": 3}, {**right, "e": 3}, {"a": 3, "b": 3, "e": 3}, [3, 3, 3], {},
                                        {"a": 3, "b": 3}, {"a": 3, "b": 3, 0: 3}, {"a": 3, "b": 3, None: 3},
                                        {"a": 3, "b": 3, ("c",): 3}, list(right.items())]
        wrong += [{**right, "c": thing} for thing in helper.any_objects() + [-1, True, False, None, "3", [3]]]
        for thing in wrong:
            for function in ONE:
                self.assertRaisesJust(BadPart, {"part": thing}, function, EXAMPLE, thing)
        self.assertRaisesJust(BadPart, {"part": right}, missing_number, Village(["a"], [], [1]), right)


class OneWrong(helper.Told):
    """7.2: one wrong number."""

    def right(self, village, by_part, numbers):
        found = []
        for person in village.people():
            number = by_part.get((person, repr(without(numbers, person))))
            if number is not None and number != numbers[person]:
                found.append((person, number))
        told = suspects(village, numbers)
        self.assertTold(told, found)
        self.assertLessEqual(len(told), 2)
        return len(told)

    def by_part(self, village):
        return {(person, repr(without(numbers, person))): numbers[person]
                for numbers, slates in ledgers_by_hand(village) for person in village.people()}

    def test_all_numbers(self):
        cases = helper.villages(3)
        cases += [Village(list("badc"), ties, [1, 1, 1, 1]) for ties in helper.trees(list("badc"))]
        many = {}
        for village in cases:
            by_part = self.by_part(village)
            for numbers in all_numbers(village, 1):
                many[self.right(village, by_part, numbers)] = True
        self.assertEqual(set(many), {0, 1, 2})

    def test_one_number_otherwise_at_each(self):
        for village in helper.some_villages(6, 12, 54) + [helper.star_village(5, [1, 2, 1, 1, 3])]:
            by_part = self.by_part(village)
            for numbers, slates in ledgers_by_hand(village)[:40]:
                self.assertTold(suspects(village, numbers), [])
                for person in village.people():
                    for more in (-2, -1, 1, 2):
                        changed = {**numbers, person: max(0, numbers[person] + more)}
                        self.assertGreaterEqual(self.right(village, by_part, changed), 1)
                        self.assertIn((person, numbers[person]), suspects(village, changed))

    def test_sixty_people(self):
        for seed, village in enumerate([helper.row_village(60), helper.star_village(60, list(range(1, 61)))]
                                       + helper.some_villages(60, 3, 55, 10 ** 15)):
            numbers = ledger(village, helper.drawn_slates(village, seed))
            self.assertTold(suspects(village, numbers), [])
            for person in village.people()[::17]:
                for more in (1, 10 ** 17):
                    told = suspects(village, {**numbers, person: numbers[person] + more})
                    self.assertIn((person, numbers[person]), told)
                    self.assertLessEqual(len(told), 2)
            self.assertTold(suspects(village, {person: 0 for person in numbers}), [])

    def test_bad_ledger(self):
        for thing in helper.any_objects() + [{"a": 3, "b": 3, "c": 3}, {one: True for one in "abcd"}]:
            self.assertRaisesJust(BadLedger, {"ledger": thing}, suspects, EXAMPLE, thing)
        self.assertTold(suspects(Village(["a"], [], [2]), {"a": 0}), [("a", 2)])
        self.assertTold(suspects(Village(["a"], [], [2]), {"a": 2}), [])


class AllButSome(helper.Told):
    """7.3: all but some numbers."""

    def right(self, village, every, part):
        found = [slates for numbers, slates in every if all(numbers[person] == part[person] for person in part)]
        told = slates_by_part(village, part)
        self.assertTold(told, found)
        self.assertTold(sure_by_part(village, part), sure_by_words(village, found))
        lacking = len(village.people()) - len(part)
        self.assertLessEqual(len(told), math.factorial(lacking))
        return len(told)

    def test_whoever_lacks(self):
        for village in helper.villages(4) + helper.villages(5)[-20:] + helper.some_villages(6, 2, 56, 10 ** 15):
            every = ledgers_by_hand(village)
            for numbers, slates in every[::5] + every[-1:]:
                for lacking in helper.subsets(village.people())[1:]:
                    self.right(village, every, without(numbers, *lacking))

    def test_numbers_otherwise(self):
        drawn = random.Random(57)
        many = {}
        for village in helper.some_villages(5, 15, 58) + helper.some_villages(6, 4, 59):
            every = ledgers_by_hand(village)
            for _ in range(60):
                numbers = dict(drawn.choice(every)[0])
                for person in drawn.sample(village.people(), drawn.randint(0, 2)):
                    numbers[person] = max(0, numbers[person] + drawn.choice([-2, -1, 1, 2]))
                part = without(numbers, *drawn.sample(village.people(), drawn.randint(1, 3)))
                count = self.right(village, every, dict(reversed(part.items())))
                many[count] = True
        self.assertLessEqual({0, 1, 2}, set(many))

    def test_all_numbers_of_two(self):
        for village in [Village(list("badc"), ties, [1, 1, 2, 1]) for ties in helper.trees(list("badc"))]:
            every = ledgers_by_hand(village)
            for lacking in itertools.combinations(village.people(), 2):
                known = [person for person in village.people() if person not in lacking]
                for numbers in itertools.product(range(7), repeat=2):
                    self.assertLessEqual(self.right(village, every, dict(zip(known, numbers))), 2)

    def test_as_many_as_can_be(self):
        self.assertEqual(len(slates_by_part(STAR, {"c": 4})), 6)
        star = helper.star_village(8)
        self.assertTold(slates_by_part(star, {}), helper.all_slates(star))
        self.assertTold(sure_by_part(star, {}), [])
        self.assertEqual(len(slates_by_part(star, {"a": 3, "b": 8, "c": 5})), 24)
        middle = star.people()[7]
        self.assertTold(sure_by_part(star, {"a": 2, "b": 8}),
                        [(middle, "a", other) for other in "bcdefg"] + [(middle, one, "b") for one in "cdefg"])

    def test_one_person_and_two(self):
        self.assertTold(slates_by_part(Village(["a"], [], [2]), {}), [{"a": []}])
        self.assertTold(sure_by_part(Village(["a"], [], [2]), {}), [])
        two = Village(["a", "b"], [("b", "a")], [2, 3])
        for part, many in (({}, 1), ({"a": 5}, 1), ({"b": 5}, 1), ({"a": 4}, 0), ({"b": 0}, 0)):
            self.assertTold(slates_by_part(two, part), [{"a": ["b"], "b": ["a"]}] * many)

    def test_sixty_people(self):
        counts = {}
        weighty = helper.star_village(60, [2 ** (place % 40) for place in range(60)])
        for seed, village in enumerate([helper.row_village(60, [10 ** 15] * 60), helper.star_village(60), weighty]
                                       + helper.some_villages(60, 3, 60, 10 ** 15)):
            slates = helper.drawn_slates(village, seed)
            numbers = ledger(village, slates)
            people = village.people()
            drawn = random.Random(seed)
            pairs = [(people[0], people[59]), (people[58], people[59]), (people[5], people[6]), ("a", "b")]
            for lacking in pairs + [drawn.sample(people, 2) for _ in range(8)]:
                part = without(numbers, *lacking)
                told = slates_by_part(village, part)
                counts[len(told)] = counts.get(len(told), 0) + 1
                self.assertIn(slates, told)
                for one in told:
                    self.assertEqual(without(ledger(village, one), *lacking), part)
                self.assertLessEqual(len(told), 2)
                self.assertTold(sure_by_part(village, part), sure_by_words(village, told))
                part[people[30]] = 10 ** 18
                self.assertTold(slates_by_part(village, part)[:1] if people[30] not in lacking else [], [])
            self.assertTold(slates_by_part(village, without(numbers, people[9])), [slates])
        self.assertEqual(set(counts), {1, 2})

    def test_two_who_change_places(self):
        star = helper.star_village(60)
        people = star.people()
        slates = {**{person: [people[59]] for person in people[:59]}, people[59]: people[:59]}
        numbers = ledger(star, slates)
        swapped = {**slates, people[59]: people[:3] + [people[40]] + people[4:40] + [people[3]] + people[41:59]}
        self.assertTold(slates_by_part(star, without(numbers, people[3], people[40])), [slates, swapped])
        sure = sure_by_part(star, without(numbers, people[3], people[40]))
        self.assertEqual(len(sure), 59 * 29 - (40 - 3) * 2 + 1)

    def test_bad_part(self):
        right = {"a": 3, "b": 3}
        wrong = [thing for thing in helper.any_objects() if thing != {}]
        wrong += [{one: 3 for one in "abcd"}, {**right, "e": 3}, {**right, None: 3}, {0: 3}, list(right.items())]
        wrong += [{**right, "b": thing} for thing in helper.any_objects() + [-1, True, False, None, "3"]]
        for thing in wrong:
            for function in SOME:
                self.assertRaisesJust(BadPart, {"part": thing}, function, EXAMPLE, thing)


class Example(helper.Told):
    """7.6, number by number (more: see test_inboxes and test_nearest)."""

    def test_example(self):
        self.assertTold(ledger(STAR, {"c": ["x", "y", "z"], "x": ["c"], "y": ["c"], "z": ["c"]}),
                        {"c": 4, "x": 2, "y": 3, "z": 4})
        self.assertTold(missing_number(STAR, {"c": 4, "x": 2, "y": 3}), 4)
        self.assertTold(part_break(STAR, {"c": 4, "x": 2, "y": 2}), ("c", 1, [(1, 1), (1, 1)]))
        self.assertTold(suspects(STAR, {"c": 4, "x": 2, "y": 2, "z": 4}), [("x", 3), ("y", 3)])
        self.assertTold([slates["c"] for slates in slates_by_part(STAR, {"c": 4, "z": 4})],
                        [["x", "y", "z"], ["y", "x", "z"]])
        self.assertEqual(len(slates_by_part(STAR, {"c": 4})), 6)


class Errors(helper.Told):
    """Which errors are due, and which go first."""

    def test_bad_village(self):
        for thing in helper.any_objects():
            if not isinstance(thing, Village):
                for function in ONE + SOME + (suspects,):
                    self.assertRaisesJust(BadVillage, {"thing": thing}, function, thing, None)
