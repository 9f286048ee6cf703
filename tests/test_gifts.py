"""Points 6.1, 6.2 and 6.6: gifts and talks, and from them back to slates."""

import itertools
import random

from heardsince.errors import BadGifts, BadSlates, BadTalks, BadVillage, NoPerson, NotFriends
from heardsince.giftbreaks import gift_break, slates_of_gifts, slates_of_talks, talks_break
from heardsince.gifts import gift, gifts, talks
from heardsince.villages import Village
from tests import helper
from tests.test_ledgers import goes_through, own_news, rim_order

EXAMPLE = helper.example_village()
SLATES = helper.EXAMPLE_SLATES
GIFTS = {("a", "b"): 1, ("b", "a"): 2, ("b", "c"): 1, ("c", "b"): 1, ("c", "d"): 2, ("d", "c"): 1}
SIXTY = [helper.row_village(60, [10 ** 15] * 60), helper.star_village(60, list(range(1, 61)))]
SIXTY += helper.some_villages(60, 3, 31, 10 ** 15)


def amounts(village, slates):
    """The gifts of slates as they are told, by letting the meetings happen."""
    own = own_news(village)
    told = helper.gifts_by_hand(village, slates)
    return {pair: sum(own[person] for person in told[pair]) for pair in helper.pairs_of_friends(village)}


def gift_break_by_words(village, given):
    """The first pair of whom the rule of gifts is not so."""
    own = own_news(village)
    for person, near in helper.friends(village).items():
        row = sorted(near, key=lambda friend: (given[person, friend], near.index(friend)))
        for place, friend in enumerate(row):
            right = own[person]
            if place > 0:
                right = given[person, row[place - 1]] + given[row[place - 1], person]
            if given[person, friend] != right:
                return (person, friend)
    return None


def talks_break_by_words(village, told):
    """The first person who does not fit, by trying all places for the friend further in."""
    own = own_news(village)
    talk_of = {frozenset(tie): talk for tie, talk in zip(village.ties(), told)}
    known = {}
    for person, inward, behind in rim_order(village):
        pairs = sorted(known[friend] for friend in behind)
        if inward is None:
            return None if goes_through(own[person], pairs) else (person, None, pairs)
        talk = talk_of[frozenset([person, inward])]
        found = []
        for place in range(len(pairs) + 1):
            front = talk - own[person] - sum(gave for given, gave in pairs[:place])
            if front >= 1 and goes_through(own[person], pairs[:place] + [(None, front)] + pairs[place:]):
                found.append((front, talk - front))
        assert len(found) <= 1
        if not found:
            return (person, talk, pairs)
        known[person] = found[0]


class Gifts(helper.Told):
    """6.1: what one tells a friend."""

    def test_what_meetings_tell(self):
        for village in helper.villages(5) + helper.some_villages(6, 2, 32, 10 ** 15):
            for slates in helper.all_slates(village):
                right = amounts(village, slates)
                self.assertTold(gifts(village, slates), right)
                self.assertTold(gifts(village, helper.as_tuples(slates)), right)
                own = own_news(village)
                for person, number in helper.numbers_by_hand(village, slates).items():
                    got = sum(amount for pair, amount in right.items() if pair[1] == person)
                    self.assertEqual(number, own[person] + got)

    def test_gift(self):
        for village in helper.villages(4) + helper.some_villages(6, 5, 33):
            for slates in helper.all_slates(village)[::3]:
                for (one, other), amount in amounts(village, slates).items():
                    self.assertTold(gift(village, slates, one, other), amount)

    def test_one_person_and_two(self):
        alone = Village(["a"], [], [5])
        self.assertTold(gifts(alone, {"a": []}), {})
        self.assertTold(slates_of_gifts(alone, {}), {"a": []})
        self.assertIs(gift_break(alone, {}), None)
        self.assertTold(talks(alone, {"a": ()}), [])
        self.assertTold(slates_of_talks(alone, []), {"a": []})
        self.assertTold(slates_of_talks(alone, ()), {"a": []})
        self.assertIs(talks_break(alone, []), None)
        two = Village(["b", "a"], [("a", "b")], [2, 10 ** 15])
        self.assertTold(gifts(two, {"a": ["b"], "b": ["a"]}), {("b", "a"): 2, ("a", "b"): 10 ** 15})
        self.assertTold(talks(two, {"a": ["b"], "b": ["a"]}), [10 ** 15 + 2])
        self.assertTold(slates_of_talks(two, [10 ** 15 + 2]), {"b": ["a"], "a": ["b"]})
        self.assertTold(talks_break(two, [10 ** 15 + 3]), ("b", None, [(3, 10 ** 15)]))
        self.assertTold(talks_break(two, [10 ** 15]), ("a", 10 ** 15, []))
        self.assertTold(gift_break(two, {("b", "a"): 2, ("a", "b"): 3}), ("a", "b"))
        self.assertTold(gift_break(two, {("a", "b"): 3, ("b", "a"): 1}), ("b", "a"))

    def test_back(self):
        for village in helper.villages(5) + helper.some_villages(6, 3, 34, 10 ** 15):
            for slates in helper.all_slates(village):
                given = amounts(village, slates)
                self.assertTold(slates_of_gifts(village, dict(reversed(given.items()))), slates)
                self.assertIs(gift_break(village, given), None)

    def test_all_numbers(self):
        cases = [(village, 7) for village in helper.villages(3)]
        cases += [(Village(list("badc"), ties, [1, 1, 1, 1]), 5) for ties in helper.trees(list("badc"))[::5]]
        for village, top in cases:
            right = {repr(amounts(village, slates)): slates for slates in helper.all_slates(village)}
            pairs = helper.pairs_of_friends(village)
            found = 0
            for numbers in itertools.product(range(top), repeat=len(pairs)):
                given = dict(zip(pairs, numbers))
                slates = right.get(repr(given))
                self.assertEqual(slates_of_gifts(village, given), slates)
                broken = gift_break(village, given)
                self.assertEqual(broken, gift_break_by_words(village, given))
                self.assertEqual(broken is None, slates is not None)
                found += slates is not None
            self.assertEqual(found, len(right))

    def test_gifts_otherwise(self):
        for seed, village in enumerate(helper.some_villages(9, 40, 35) + [helper.star_village(6)] * 3):
            given = gifts(village, helper.drawn_slates(village, seed))
            for pair in given:
                for more in (-2, -1, 1, 3):
                    changed = {**given, pair: max(0, given[pair] + more)}
                    broken = gift_break(village, changed)
                    self.assertTold(broken, gift_break_by_words(village, changed))
                    self.assertEqual(slates_of_gifts(village, changed) is None, broken is not None)

    def test_equal_gifts_in_the_village_order(self):
        star = Village(list("cbadm"), [(one, "m") for one in "abcd"], [1] * 5)
        leaves = {(one, "m"): 1 for one in "abcd"}
        self.assertTold(gift_break(star, {**leaves, **{("m", one): 1 for one in "abcd"}}), ("m", "b"))
        self.assertTold(gift_break(star, {**leaves, **{("m", one): 2 for one in "abcd"}}), ("m", "c"))
        nothing = {**leaves, **{("m", one): 1 for one in "abcd"}, ("c", "m"): 0}
        self.assertTold(gift_break(star, nothing), ("c", "m"))

    def test_sixty_people(self):
        for seed, village in enumerate(SIXTY):
            slates = helper.drawn_slates(village, seed)
            right = amounts(village, slates)
            self.assertTold(gifts(village, slates), right)
            self.assertTold(slates_of_gifts(village, right), slates)
            for pair in list(right)[::13]:
                for number in (right[pair] + 1, right[pair] - 1, 0, 10 ** 18):
                    changed = {**right, pair: number}
                    self.assertIs(slates_of_gifts(village, changed), None)
                    self.assertTold(gift_break(village, changed), gift_break_by_words(village, changed))

    def test_bad_gifts(self):
        wrong = helper.any_objects() + [{pair: GIFTS[pair] for pair in list(GIFTS)[1:]}, {**GIFTS, ("a", "c"): 1},
                                        {**GIFTS, "a": 1}, list(GIFTS.items()), {**GIFTS, ("a", "a"): 0}]
        wrong += [{**GIFTS, ("d", "c"): thing} for thing in helper.any_objects()]
        less = {pair: GIFTS[pair] for pair in list(GIFTS)[1:]}
        wrong += [{**less, ("a", "c"): 1}, {**less, ("a", "b", "c"): 1}, {**less, "ab": 1}, {**less, None: 1}]
        for thing in wrong:
            for function in (slates_of_gifts, gift_break):
                self.assertRaisesJust(BadGifts, {"gifts": thing}, function, EXAMPLE, thing)
        alone = Village(["a"], [], [1])
        for thing in helper.any_objects():
            if thing != {}:
                self.assertRaisesJust(BadGifts, {"gifts": thing}, gift_break, alone, thing)


class Talks(helper.Told):
    """6.2: what both know."""

    def test_what_meetings_tell(self):
        for village in helper.villages(5) + helper.some_villages(6, 3, 36, 10 ** 15):
            had = {}
            for slates in helper.all_slates(village):
                given = amounts(village, slates)
                right = [given[one, other] + given[other, one] for one, other in village.ties()]
                had[repr(right)] = True
                self.assertTold(talks(village, slates), right)
                self.assertTold(slates_of_talks(village, right), slates)
                self.assertTold(slates_of_talks(village, tuple(right)), slates)
                self.assertIs(talks_break(village, right), None)
            self.assertEqual(len(had), len(helper.all_slates(village)))

    def test_all_numbers(self):
        cases = [(village, 8) for village in helper.villages(3)]
        for news in ([1, 1, 1, 1], [1, 2, 1, 1], [3, 1, 1, 2]):
            cases += [(Village(list("badc"), ties, news), sum(news) + 3) for ties in helper.trees(list("badc"))]
        cases += [(Village(list("badce"), ties, [1] * 5), 7) for ties in helper.trees(list("badce"))[::31]]
        for village, top in cases:
            right = {repr(talks(village, slates)): slates for slates in helper.all_slates(village)}
            found = 0
            for numbers in itertools.product(range(top), repeat=len(village.ties())):
                slates = right.get(repr(list(numbers)))
                self.assertEqual(slates_of_talks(village, numbers), slates)
                broken = talks_break(village, list(numbers))
                self.assertTold(broken, talks_break_by_words(village, numbers))
                self.assertEqual(broken is None, slates is not None)
                found += slates is not None
            self.assertEqual(found, len(right))

    def test_talks_otherwise(self):
        for seed, village in enumerate(helper.some_villages(9, 60, 37) + [helper.star_village(6)] * 3):
            told = talks(village, helper.drawn_slates(village, seed))
            for place in range(len(told)):
                for more in (-3, -1, 1, 2):
                    changed = list(told)
                    changed[place] = max(0, told[place] + more)
                    broken = talks_break(village, changed)
                    self.assertTold(broken, talks_break_by_words(village, changed))
                    slates = slates_of_talks(village, changed)
                    self.assertEqual(slates is None, broken is not None)
                    if slates is not None:
                        self.assertEqual(talks(village, slates), changed)

    def test_breaks(self):
        star = Village(list("mdcba"), [(one, "m") for one in "abcd"], [1] * 5)
        self.assertTold(talks_break(star, [0, 1, 2, 3]), ("b", 1, []))
        self.assertTold(talks_break(star, [2, 2, 2, 1]), ("d", 1, []))
        self.assertTold(talks_break(star, [3, 2, 2, 5]), ("m", None, [(1, 1), (1, 1), (2, 1), (4, 1)]))
        news = Village(list("mba"), [("a", "m"), ("b", "m")], [1, 1, 2])
        self.assertTold(talks_break(news, [3, 2]), ("m", None, [(1, 1), (1, 2)]))
        row = Village(list("abc"), [("a", "b"), ("b", "c")], [1, 1, 1])
        self.assertTold(talks_break(row, [2, 2]), ("b", 2, [(1, 1)]))
        self.assertTold(talks_break(row, [2, 3]), None)
        self.assertTold(talks_break(row, [3, 3]), ("b", 3, [(2, 1)]))

    def test_sixty_people(self):
        for seed, village in enumerate(SIXTY):
            slates = helper.drawn_slates(village, seed)
            given = amounts(village, slates)
            right = [given[one, other] + given[other, one] for one, other in village.ties()]
            self.assertTold(talks(village, slates), right)
            self.assertTold(slates_of_talks(village, right), slates)
            for place in range(0, 59, 9):
                for number in (right[place] + 1, right[place] - 1, 0, 10 ** 18):
                    changed = right[:place] + [number] + right[place + 1:]
                    self.assertIs(slates_of_talks(village, changed), None)
                    self.assertTold(talks_break(village, changed), talks_break_by_words(village, changed))

    def test_drawn_great_numbers(self):
        drawn = random.Random(38)
        for village in SIXTY:
            told = [drawn.randrange(10 ** 18) for _ in village.ties()]
            self.assertTold(talks_break(village, told), talks_break_by_words(village, told))

    def test_bad_talks(self):
        for function in (slates_of_talks, talks_break):
            for thing in helper.any_objects():
                if not isinstance(thing, (list, tuple)):
                    self.assertRaisesJust(BadTalks, {"index": 0}, function, EXAMPLE, thing)
                self.assertRaisesJust(BadTalks, {"index": 0}, function, EXAMPLE, [thing, 2, 3])
                self.assertRaisesJust(BadTalks, {"index": 1}, function, EXAMPLE, (3, thing, thing))
                self.assertRaisesJust(BadTalks, {"index": 2}, function, EXAMPLE, [3, 2, thing, 3])
                self.assertRaisesJust(BadTalks, {"index": 3}, function, EXAMPLE, [3, 2, 3, thing])
            for many in range(3):
                self.assertRaisesJust(BadTalks, {"index": many}, function, EXAMPLE, [3] * many)
            self.assertRaisesJust(BadTalks, {"index": 3}, function, EXAMPLE, [3, 2, 3, 3])
            self.assertRaisesJust(BadTalks, {"index": 1}, function, EXAMPLE, [3, -1])
            self.assertRaisesJust(BadTalks, {"index": 0}, function, EXAMPLE, {0: 3, 1: 2, 2: 3})
            self.assertRaisesJust(BadTalks, {"index": 0}, function, Village(["a"], [], [1]), [1])


class Example(helper.Told):
    """6.6, number by number (more: see test_tellings)."""

    def test_example(self):
        self.assertTold(gifts(EXAMPLE, SLATES), GIFTS)
        self.assertTold(slates_of_gifts(EXAMPLE, GIFTS), SLATES)
        self.assertTold(gift_break(EXAMPLE, {**GIFTS, ("b", "a"): 3}), ("b", "a"))
        self.assertIs(slates_of_gifts(EXAMPLE, {**GIFTS, ("b", "a"): 3}), None)
        self.assertTold(talks(EXAMPLE, SLATES), [3, 2, 3])
        self.assertTold(slates_of_talks(EXAMPLE, [3, 2, 3]), SLATES)
        self.assertTold(talks_break(EXAMPLE, [3, 2, 4]), ("c", 2, [(3, 1)]))


class Errors(helper.Told):
    """Which errors are due, and which go first."""

    def test_bad_village_and_bad_slates(self):
        for thing in helper.any_objects():
            if not isinstance(thing, Village):
                for function in (gifts, talks, slates_of_gifts, gift_break, slates_of_talks, talks_break):
                    self.assertRaisesJust(BadVillage, {"thing": thing}, function, thing, None)
                self.assertRaisesJust(BadVillage, {"thing": thing}, gift, thing, None, None, None)
            for function in (gifts, talks):
                self.assertRaisesJust(BadSlates, {"slates": thing}, function, EXAMPLE, thing)
            self.assertRaisesJust(BadSlates, {"slates": thing}, gift, EXAMPLE, thing, thing, thing)

    def test_no_person_and_not_friends(self):
        for thing in helper.any_objects() + ["e"]:
            self.assertRaisesJust(NoPerson, {"person": thing}, gift, EXAMPLE, SLATES, thing, None)
            self.assertRaisesJust(NoPerson, {"person": thing}, gift, EXAMPLE, SLATES, "a", thing)
        for one, other in itertools.product("abcd", repeat=2):
            if (one, other) not in GIFTS:
                self.assertRaisesJust(NotFriends, {"one": one, "other": other}, gift, EXAMPLE, SLATES, one, other)
