"""Points 6.3 to 6.6: whose news are told, lots at a door, and gifts and numbers counted over all slates."""

import itertools
import math
import random

from heardsince.errors import BadSlates, BadSome, BadVillage, NoPerson, NotFriends
from heardsince.gifts import gift
from heardsince.ledgers import ledger
from heardsince.tables import count_slates
from heardsince.tellings import gift_counts, lots_at, number_counts, slates_telling, told_at
from heardsince.villages import Village
from tests import helper
from tests.test_ledgers import own_news

EXAMPLE = helper.example_village()
SLATES = helper.EXAMPLE_SLATES
DOORS = (lots_at, gift_counts)


def hangs_together(village, some):
    """Whether all on the ways between some people are among them."""
    return all(set(helper.way(village, one, other)) <= set(some) for one in some for other in some)


def drawn_village(many, seed, most):
    """People with at most so many news in all, who hang on one another by drawn ties."""
    village = helper.some_villages(many, 1, seed)[0]
    drawn = random.Random(seed)
    news = [1] * many
    for _ in range(most - many):
        news[drawn.randrange(many)] += 1
    return Village(village.people(), village.ties(), news)


class Told(helper.Told):
    """6.3: whose news one tells."""

    def test_what_meetings_tell(self):
        for village in helper.villages(4) + helper.villages(5)[-40:] + helper.some_villages(6, 3, 41):
            own = own_news(village)
            for slates in helper.all_slates(village):
                for (one, other), lot in helper.gifts_by_hand(village, slates).items():
                    told = told_at(village, slates, one, other)
                    self.assertTold(told, [person for person in village.people() if person in lot])
                    self.assertTrue(hangs_together(village, told))
                    self.assertEqual(gift(village, slates, one, other), sum(own[person] for person in told))

    def test_tuples_and_sixty_people(self):
        self.assertTold(told_at(EXAMPLE, helper.as_tuples(SLATES), "c", "d"), ["b", "c"])
        for seed, village in enumerate([helper.row_village(60), helper.star_village(60)]
                                       + helper.some_villages(60, 2, 42)):
            slates = helper.drawn_slates(village, seed)
            for (one, other), lot in helper.gifts_by_hand(village, slates).items():
                self.assertTold(told_at(village, slates, one, other),
                                [person for person in village.people() if person in lot])


class Lots(helper.Told):
    """6.4: lots at a door."""

    def test_all_lots(self):
        for village in helper.villages(4) + helper.villages(5)[-60:] + helper.some_villages(6, 3, 43):
            every = helper.all_slates(village)
            told = [helper.gifts_by_hand(village, slates) for slates in every]
            for one, other in helper.pairs_of_friends(village):
                had = {}
                both = {}
                for lots in told:
                    lot = frozenset(lots[one, other])
                    had[lot] = had.get(lot, 0) + 1
                    both[lot, frozenset(lots[other, one])] = True
                self.assertTold(lots_at(village, one, other), len(had))
                self.assertEqual(len(both), len(had) * len({frozenset(lots[other, one]) for lots in told}))
                for some in helper.subsets(village.people()):
                    many = had.get(frozenset(some), 0)
                    self.assertTold(slates_telling(village, one, other, some), many)
                    self.assertTold(slates_telling(village, one, other, tuple(reversed(some))), many)

    def test_sixty_people(self):
        star, row = helper.star_village(60), helper.row_village(60)
        people = row.people()
        self.assertTold(lots_at(star, star.people()[59], "a"), 2 ** 58)
        self.assertTold(lots_at(star, "a", star.people()[59]), 1)
        self.assertTold(slates_telling(star, people[59], "a", people[10:]),
                        math.factorial(49) * math.factorial(9))
        self.assertTold(slates_telling(star, people[59], "a", people), 0)
        for place in range(59):
            self.assertTold(lots_at(row, people[place], people[place + 1]), place + 1)
            self.assertTold(lots_at(row, people[place + 1], people[place]), 59 - place)
            self.assertTold(slates_telling(row, people[place], people[place + 1], people[:place + 1]),
                            2 ** (58 - place))
            self.assertTold(slates_telling(row, people[place], people[place + 1], people[place:place + 1]),
                            2 ** (57 if place else 58))

    def test_lots_add_up_to_all_slates(self):
        for village in [helper.star_village(7)] + helper.some_villages(9, 20, 44):
            for one, other in village.ties()[:3]:
                lots = [some for some in helper.subsets(village.behind(other, one))]
                counts = [slates_telling(village, one, other, some) for some in lots]
                self.assertEqual(sum(counts), count_slates(village))
                self.assertEqual(sum(many > 0 for many in counts), lots_at(village, one, other))

    def test_bad_some(self):
        for thing in helper.any_objects():
            if not isinstance(thing, (list, tuple)):
                self.assertRaisesJust(BadSome, {"index": 0}, slates_telling, EXAMPLE, "c", "d", thing)
            self.assertRaisesJust(BadSome, {"index": 0}, slates_telling, EXAMPLE, "c", "d", [thing])
            self.assertRaisesJust(BadSome, {"index": 2}, slates_telling, EXAMPLE, "c", "d", ("c", "b", thing, thing))
        self.assertRaisesJust(BadSome, {"index": 1}, slates_telling, EXAMPLE, "c", "d", ["c", "c", "e"])
        self.assertRaisesJust(BadSome, {"index": 4}, slates_telling, EXAMPLE, "c", "d", list("abcdd"))
        self.assertRaisesJust(BadSome, {"index": 1}, slates_telling, EXAMPLE, "c", "d", ["d", "e"])
        for some in ([], (), ["b"], ["a", "c"], ["c", "d"], ["d"], ["c", "a"]):
            self.assertTold(slates_telling(EXAMPLE, "c", "d", some), 0)


class Counted(helper.Told):
    """6.5: counted by numbers."""

    def test_over_all_slates(self):
        for village in helper.villages(4) + helper.villages(5)[-60:] + helper.some_villages(6, 4, 45, 9):
            own = own_news(village)
            given = {pair: {} for pair in helper.pairs_of_friends(village)}
            numbers = {person: {} for person in village.people()}
            for slates in helper.all_slates(village):
                for pair, lot in helper.gifts_by_hand(village, slates).items():
                    amount = sum(own[person] for person in lot)
                    given[pair][amount] = given[pair].get(amount, 0) + 1
                for person, number in helper.numbers_by_hand(village, slates).items():
                    numbers[person][number] = numbers[person].get(number, 0) + 1
            for (one, other), counts in given.items():
                self.assertTold(gift_counts(village, one, other), dict(sorted(counts.items())))
            for person, counts in numbers.items():
                self.assertTold(number_counts(village, person), dict(sorted(counts.items())))

    def test_one_person_and_two(self):
        self.assertTold(number_counts(Village(["a"], [], [400]), "a"), {400: 1})
        two = Village(["a", "b"], [("b", "a")], [399, 1])
        self.assertTold(gift_counts(two, "a", "b"), {399: 1})
        self.assertTold(gift_counts(two, "b", "a"), {1: 1})
        self.assertTold(number_counts(two, "b"), {400: 1})

    def test_row_and_star_of_sixty(self):
        row, star = helper.row_village(60), helper.star_village(60)
        people = row.people()
        for place in (0, 1, 30, 58):
            right = {many: 2 ** (58 - many) for many in range(1, place + 1)}
            right[place + 1] = 2 ** (58 - place)
            self.assertTold(gift_counts(row, people[place], people[place + 1]), right)
        self.assertTold(gift_counts(star, people[59], "a"), {many: math.factorial(58) for many in range(1, 60)})
        self.assertTold(gift_counts(star, "a", people[59]), {1: math.factorial(59)})
        self.assertTold(number_counts(star, "b"), {many: math.factorial(58) for many in range(2, 61)})
        self.assertTold(number_counts(star, people[59]), {60: math.factorial(59)})

    def test_sixty_people_with_four_hundred_news(self):
        weighty = helper.star_village(60, [13] + [6] * 30 + [7] * 29)
        for seed, village in enumerate([weighty] + [drawn_village(60, seed, 400) for seed in range(3)]):
            own = own_news(village)
            every = count_slates(village)
            one, other = village.ties()[seed * 7]
            counts = gift_counts(village, one, other)
            self.assertEqual(list(counts), sorted(counts))
            self.assertEqual(sum(counts.values()), every)
            # somebody behind one is told of with the chance that each on the way meets the one ahead first
            side = village.behind(other, one)
            right = sum(own[person] * every // 2 ** (len(village.way(person, one)) - 1) for person in side)
            self.assertEqual(sum(given * many for given, many in counts.items()), right)
            counts = number_counts(village, one)
            self.assertEqual(list(counts), sorted(counts))
            self.assertEqual(sum(counts.values()), every)
            right = sum(own[person] * every // 2 ** max(0, len(village.way(person, one)) - 2)
                        for person in village.people())
            self.assertEqual(sum(number * many for number, many in counts.items()), right)
            for tries in range(20):
                slates = helper.drawn_slates(village, tries)
                self.assertIn(ledger(village, slates)[one], counts)


class Example(helper.Told):
    """6.6, number by number (more: see test_gifts)."""

    def test_example(self):
        self.assertTold(told_at(EXAMPLE, SLATES, "c", "d"), ["b", "c"])
        self.assertTold(lots_at(EXAMPLE, "c", "d"), 3)
        self.assertTold(slates_telling(EXAMPLE, "c", "d", ["b", "c"]), 1)
        self.assertTold(slates_telling(EXAMPLE, "c", "d", ["c"]), 2)
        self.assertTold(gift_counts(EXAMPLE, "c", "d"), {1: 2, 2: 1, 3: 1})
        self.assertTold(number_counts(EXAMPLE, "b"), {3: 2, 4: 2})


class Errors(helper.Told):
    """Which errors are due, and which go first."""

    def test_bad_village_and_bad_slates(self):
        for thing in helper.any_objects():
            if not isinstance(thing, Village):
                for function in DOORS:
                    self.assertRaisesJust(BadVillage, {"thing": thing}, function, thing, None, None)
                self.assertRaisesJust(BadVillage, {"thing": thing}, number_counts, thing, None)
                self.assertRaisesJust(BadVillage, {"thing": thing}, slates_telling, thing, None, None, None)
                self.assertRaisesJust(BadVillage, {"thing": thing}, told_at, thing, None, None, None)
            self.assertRaisesJust(BadSlates, {"slates": thing}, told_at, EXAMPLE, thing, thing, thing)

    def test_no_person_and_not_friends(self):
        calls = [(function, ()) for function in DOORS] + [(slates_telling, (None,))]
        for thing in helper.any_objects() + ["e"]:
            for function, more in calls:
                self.assertRaisesJust(NoPerson, {"person": thing}, function, EXAMPLE, thing, None, *more)
                self.assertRaisesJust(NoPerson, {"person": thing}, function, EXAMPLE, "a", thing, *more)
            self.assertRaisesJust(NoPerson, {"person": thing}, told_at, EXAMPLE, SLATES, thing, None)
            self.assertRaisesJust(NoPerson, {"person": thing}, told_at, EXAMPLE, SLATES, "a", thing)
            self.assertRaisesJust(NoPerson, {"person": thing}, number_counts, EXAMPLE, thing)
        for one, other in itertools.product("abcd", repeat=2):
            if (one, other) not in helper.pairs_of_friends(EXAMPLE):
                kept = {"one": one, "other": other}
                for function, more in calls:
                    self.assertRaisesJust(NotFriends, kept, function, EXAMPLE, one, other, *more)
                self.assertRaisesJust(NotFriends, kept, told_at, EXAMPLE, SLATES, one, other)
