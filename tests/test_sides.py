"""Points 19.5 to 19.7 and what 19.8 has of them: numbers of one side, of both sides, of all but two friends."""

import itertools
import random

from heardsince.errors import BadLedger, BadPart, BadVillage, NoPerson, NotFriends
from heardsince.ledgerbreaks import slates_of_ledger
from heardsince.refusals import BadNumbers
from heardsince.sides import door_fault, side_break, side_told, told_but_two
from heardsince.villages import Village
from tests import helper

EXAMPLE = helper.example_village()
THREES = {"a": 3, "b": 3, "c": 3, "d": 3}
TWO = Village(["a", "b"], [("b", "a")], [2, 3])


def side_of(village, one, other):
    """All behind the door from one to other."""
    return [person for person in village.people() if other in helper.way(village, one, person)]


def sides_by_hand(village, one, other):
    """The dict from the numbers of one side to the triples (slates, gave, got) of that side, by all slates.

    What the first one gives is any number: so of beyond there is one alone, who has as many news.
    """
    side = side_of(village, one, other)
    own = dict(zip(village.people(), village.news()))
    part = Village(side + [one], [tie for tie in village.ties() if set(tie) <= set(side + [one])],
                   [own[person] for person in side] + [own[one]])
    found = {}
    for slates in helper.all_slates(part):
        told = helper.gifts_by_hand(part, slates)
        heard = helper.simulated(part, helper.any_calendar(part, slates))
        gave = sum(own[person] for person in told[other, one])
        reached = [person for person in side if one in heard[person]]
        base = {person: sum(own[known] for known in heard[person] if known != one) for person in side}
        found.setdefault(repr((base, reached)), []).append(({person: slates[person] for person in side}, gave, base, reached))
    return found


def break_by_words(village, one, other, numbers):
    """The break of one side's numbers as 5.3 tells it, rim order by the way to one."""
    own = dict(zip(village.people(), village.news()))
    side = side_of(village, one, other)
    far = sorted(side, key=lambda person: -len(helper.way(village, person, one)))
    gifts = {}
    for person in far:
        inward = helper.way(village, person, one)[1]
        behind = [friend for friend in helper.friends(village)[person] if friend != inward]
        pairs = sorted(gifts[friend] for friend in behind)
        front = numbers[person] - own[person] - sum(gave for given, gave in pairs)
        places = []
        for place in range(len(pairs) + 1):
            total, right, met = own[person], True, None
            for at, pair in enumerate(pairs + [None]):
                if at == place:
                    met = total
                    total += front
                if pair is not None:
                    right = right and pair[0] == total
                    total += pair[1]
            if right:
                places.append(met)
        if front < 1 or not places:
            return (person, front, pairs)
        gifts[person] = (front, places[0])
    return None


class OneSide(helper.Told):
    """19.5."""

    def right_ones(self, village, one, other, numbers):
        told, broken = side_told(village, one, other, numbers), side_break(village, one, other, numbers)
        self.assertIs(told is None, broken is not None)
        self.assertTold(broken, break_by_words(village, one, other, numbers))
        about = dict(reversed(numbers.items()))
        self.assertTold(side_told(village, one, other, about), told)
        return told

    def test_all_gifts_from_beyond(self):
        for village in helper.small_villages(1911):
            pairs = helper.pairs_of_friends(village)
            for one, other in pairs if len(village.people()) < 5 else pairs[::3]:
                right = {}
                for ways in sides_by_hand(village, one, other).values():
                    for slates, gave, base, reached in ways:
                        for got in (1, 2, 3, 7, 10 ** 15):
                            numbers = {person: base[person] + (got if person in reached else 0) for person in base}
                            right.setdefault(repr(numbers), []).append((slates, gave, got))
                            self.assertTold(self.right_ones(village, one, other, numbers), (slates, gave, got))
                # IT HOLDS: there is one such triple at most
                self.assertTrue(all(len(triples) == 1 for triples in right.values()))

    def test_wrong_numbers(self):
        drawn = random.Random(1912)
        found = set()
        for village in helper.small_villages(1913)[1:] + helper.some_villages(8, 6, 1914):
            for number in range(12):
                slates = helper.drawn_slates(village, number)
                numbers = helper.numbers_by_hand(village, slates)
                one, other = drawn.choice(helper.pairs_of_friends(village))
                part = {person: numbers[person] for person in side_of(village, one, other)}
                for person in drawn.sample(list(part), 1):
                    part[person] = max(0, part[person] + drawn.choice((-3, -1, 0, 1, 2, 10)))
                told = self.right_ones(village, one, other, part)
                found.add(told is None)
                if told is not None:
                    slates_told, gave, got = told
                    self.right_triple(village, one, other, part, told)
        self.assertEqual(found, {True, False})

    def right_triple(self, village, one, other, part, told):
        """That by the told slates the side has these numbers, if the one beyond has just what is got."""
        slates, gave, got = told
        own = dict(zip(village.people(), village.news()))
        side = list(part)
        small = Village(side + [one], [tie for tie in village.ties() if set(tie) <= set(side + [one])],
                        [own[person] for person in side] + [got])
        heard = helper.numbers_by_hand(small, {**slates, one: [other]})
        self.assertEqual({person: heard[person] for person in side}, part)
        self.assertEqual(heard[one], got + gave)
        self.assertGreaterEqual(got, 1)

    def test_great_villages(self):
        for seed, village in enumerate(helper.great_villages(1915)):
            slates = helper.drawn_slates(village, seed)
            numbers = helper.numbers_by_hand(village, slates)
            gifts = helper.gifts_by_hand(village, slates)
            own = dict(zip(village.people(), village.news()))
            for one, other in helper.pairs_of_friends(village)[::11]:
                part = {person: numbers[person] for person in side_of(village, one, other)}
                told = self.right_ones(village, one, other, part)
                self.assertTold(told, ({person: slates[person] for person in part},
                                       sum(own[person] for person in gifts[other, one]),
                                       sum(own[person] for person in gifts[one, other])))
                for person in list(part)[::20]:
                    self.right_ones(village, one, other, {**part, person: part[person] + 1})

    def test_two_people(self):
        self.assertTold(side_told(TWO, "a", "b", {"b": 10}), ({"b": ["a"]}, 3, 7))
        self.assertTold(side_told(TWO, "a", "b", {"b": 3}), None)
        self.assertTold(side_break(TWO, "a", "b", {"b": 3}), ("b", 0, []))
        self.assertTold(side_break(TWO, "b", "a", {"a": 0}), ("a", -2, []))

    def test_bad_numbers(self):
        for function in (side_told, side_break):
            for thing in helper.any_objects() + [{"c": 3}, {"c": 3, "d": 3, "a": 1}, {"c": 3, "d": -1}, {"c": 3, "d": True},
                                                 {"c": 3, "b": 3}, {"c": 3, "d": None}, [3, 3]]:
                self.assertRaisesJust(BadNumbers, {"numbers": thing}, function, EXAMPLE, "b", "c", thing)


class BothSides(helper.Told):
    """19.6."""

    def fault_by_words(self, village, ledger, one, other):
        told = []
        for beyond, person in ((other, one), (one, other)):
            part = {behind: ledger[behind] for behind in side_of(village, beyond, person)}
            broken = break_by_words(village, beyond, person, part)
            if broken is not None:
                return ("break",) + broken
            told.append(side_told(village, beyond, person, part)[1:])
        (gave, got), (theirs_gave, theirs_got) = told
        return None if (gave, got) == (theirs_got, theirs_gave) else ("unlike", (gave, got), (theirs_got, theirs_gave))

    def test_all_ledgers(self):
        words = set()
        for village in helper.villages(4)[1:]:
            every = [repr(helper.numbers_by_hand(village, slates)) for slates in helper.all_slates(village)]
            most = sum(village.news())
            drawn = random.Random(1916)
            rows = [[drawn.randint(0, most + 1) for _ in village.people()] for _ in range(60)]
            rows += [[number + drawn.choice((-1, 0, 0, 0, 1)) for number in helper.numbers_by_hand(village, slates).values()]
                     for slates in helper.all_slates(village) for _ in range(6)]
            for row in rows:
                numbers = dict(zip(village.people(), [max(0, number) for number in row]))
                for one, other in helper.pairs_of_friends(village):
                    told = door_fault(village, numbers, one, other)
                    self.assertIs(told is None, repr(numbers) in every)
                    self.assertTold(told, self.fault_by_words(village, numbers, one, other))
                    words.add(told and told[0])
        self.assertEqual(words, {None, "break", "unlike"})

    def test_great_villages(self):
        for seed, village in enumerate(helper.great_villages(1917)):
            numbers = helper.numbers_by_hand(village, helper.drawn_slates(village, seed))
            for one, other in village.ties()[::14]:
                self.assertTold(door_fault(village, numbers, one, other), None)
                for person in village.people()[seed::29]:
                    for more in (-1, 1, 10 ** 17):
                        wrong = {**numbers, person: numbers[person] + more}
                        told = door_fault(village, wrong, one, other)
                        self.assertTold(told, self.fault_by_words(village, wrong, one, other))
                        # one wrong number is always found out
                        self.assertIsNot(told, None)

    def test_two_people(self):
        self.assertTold(door_fault(TWO, {"a": 5, "b": 5}, "a", "b"), None)
        self.assertTold(door_fault(TWO, {"a": 6, "b": 5}, "a", "b"), ("unlike", (2, 4), (2, 3)))
        self.assertTold(door_fault(TWO, {"a": 6, "b": 5}, "b", "a"), ("unlike", (3, 2), (4, 2)))
        self.assertTold(door_fault(TWO, {"a": 2, "b": 3}, "a", "b"), ("break", "a", 0, []))

    def test_bad_ledger(self):
        for thing in helper.any_objects() + [{"a": 3, "b": 3, "c": 3}, {**THREES, "e": 1}, {**THREES, "a": True}]:
            self.assertRaisesJust(BadLedger, {"ledger": thing}, door_fault, EXAMPLE, thing, None, None)


class AllButTwo(helper.Told):
    """19.7."""

    def right_ones(self, village, part, one, other, by_part):
        told = told_but_two(village, part, one, other)
        right = by_part.get(repr({person: part[person] for person in sorted(part)}), [])
        self.assertLessEqual(len(right), 1)
        self.assertTold(told, right[0] if right else None)

    def test_all_slates(self):
        drawn = random.Random(1918)
        for village in helper.small_villages(1919)[1:]:
            every = [(helper.numbers_by_hand(village, slates), slates) for slates in helper.all_slates(village)]
            for one, other in village.ties():
                by_part = {}
                for numbers, slates in every:
                    part = {person: numbers[person] for person in sorted(numbers) if person not in (one, other)}
                    by_part.setdefault(repr(part), []).append(slates)
                for numbers, slates in every[::1 + len(every) // 40]:
                    part = {person: numbers[person] for person in numbers if person not in (one, other)}
                    self.right_ones(village, part, one, other, by_part)
                    self.right_ones(village, part, other, one, by_part)
                    for person in part:
                        wrong = {**part, person: max(0, part[person] + drawn.choice((-2, -1, 1, 2)))}
                        self.right_ones(village, wrong, one, other, by_part)

    def test_great_villages(self):
        for seed, village in enumerate(helper.great_villages(1920)):
            slates = helper.drawn_slates(village, seed)
            numbers = helper.numbers_by_hand(village, slates)
            for one, other in village.ties()[::9]:
                part = {person: numbers[person] for person in reversed(numbers) if person not in (one, other)}
                self.assertTold(told_but_two(village, part, one, other), slates)
                self.assertTold(told_but_two(village, part, other, one), slates)
                for person in list(part)[::25]:
                    for more in (-1, 1, 10 ** 17):
                        wrong = {**part, person: part[person] + more}
                        told = told_but_two(village, wrong, one, other)
                        if told is not None:
                            back = helper.numbers_by_hand(village, told)
                            self.assertEqual({who: back[who] for who in wrong}, wrong)

    def test_two_people(self):
        self.assertTold(told_but_two(TWO, {}, "a", "b"), {"a": ["b"], "b": ["a"]})

    def test_bad_part(self):
        for thing in helper.any_objects() + [{"a": 3}, {"a": 3, "d": 3, "b": 3}, {"a": 3, "b": 3}, {"a": 3, "d": True}, THREES,
                                             {"a": 3, "d": -1}, [3, 3]]:
            self.assertRaisesJust(BadPart, {"part": thing}, told_but_two, EXAMPLE, thing, "b", "c")


class Errors(helper.Told):

    def test_errors_in_order(self):
        for function, ahead, behind in ((side_told, (), (None,)), (side_break, (), (None,)),
                                        (door_fault, (THREES,), ()), (told_but_two, (None,), ())):
            for thing in helper.any_objects():
                if not isinstance(thing, Village):
                    self.assertRaisesJust(BadVillage, {"thing": thing}, function, thing, *ahead, None, None, *behind)
                self.assertRaisesJust(NoPerson, {"person": thing}, function, EXAMPLE, *ahead, thing, "?", *behind)
                self.assertRaisesJust(NoPerson, {"person": thing}, function, EXAMPLE, *ahead, "a", thing, *behind)
            for one, other in (("a", "c"), ("d", "d"), ("d", "a")):
                self.assertRaisesJust(NotFriends, {"one": one, "other": other}, function, EXAMPLE, *ahead, one, other, *behind)


class Example(helper.Told):
    """19.8, what it has of these."""

    def test_example(self):
        self.assertTold(side_told(EXAMPLE, "b", "c", {"c": 3, "d": 3}), ({"c": ["b", "d"], "d": ["c"]}, 1, 1))
        self.assertTold(door_fault(EXAMPLE, THREES, "b", "c"), None)
        self.assertTold(told_but_two(EXAMPLE, {"a": 3, "d": 3}, "b", "c"), helper.EXAMPLE_SLATES)
        for numbers in itertools.product(range(2, 5), repeat=4):
            these = dict(zip("abcd", numbers))
            self.assertIs(door_fault(EXAMPLE, these, "b", "c") is None, slates_of_ledger(EXAMPLE, these) is not None)
