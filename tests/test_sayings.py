"""Points 14.1 to 14.3 and what 14.7 has of them: sayings, orders, slates or a ring; ways of orders of 14.4."""

import itertools
import random

from heardsince.calendars import is_slates
from heardsince.errors import BadSlates, BadVillage, NoPerson, NotFriends
from heardsince.refusals import BadSayings
from heardsince.sayings import fault_of, fits, orders_of, sayers, slates_fit, way_of_orders
from heardsince.villages import Village
from tests import helper
from tests.plain_sayings import (are_so, drawn_sayings, is_far, orders_by_words, ring_length, said_by_words,
                                 shortest_by_hand, tables_of, true_sayings)

EXAMPLE = helper.example_village()
SLATES = helper.EXAMPLE_SLATES
TWO_SAID = [("d", "a", True), ("a", "c", False)]
ALONE = Village(["a"], [], [1])
TWO = Village(["a", "b"], [("b", "a")], [1, 1])


def drawn_cases(seed, count):
    drawn = random.Random(seed)
    stars = [village for village in helper.villages(5) if max(map(len, helper.friends(village).values())) == 4]
    for village in helper.villages(4) + stars[:2] + helper.some_villages(5, 4, seed) + helper.some_villages(6, 2, seed):
        for many in range(count):
            yield village, drawn_sayings(village, many, drawn, ((True, False), (True, True, True, False))[many % 2])
        for many in range(2, count, 2):
            slates = helper.drawn_slates(village, many)
            yield village, true_sayings(village, slates, many, drawn)


def ring_village():
    """A person with six friends, each of whom has one more friend."""
    inner, outer = ["c", "d", "e", "f", "g", "h"], ["i", "j", "k", "l", "m", "n"]
    return Village(["b"] + inner + outer, [("b", one) for one in inner] + list(zip(inner, outer)), [1] * 13)


class Fits(helper.Told):
    """14.1."""

    def test_all_slates(self):
        for village, sayings in drawn_cases(1401, 7):
            for slates, table in tables_of(village):
                for some in (sayings, sayings[:2], sayings[1:3]):
                    self.assertIs(fits(village, slates, helper.as_lists(some)), are_so(table, some))

    def test_great_villages(self):
        drawn = random.Random(1402)
        for seed, village in enumerate(helper.great_villages(1403)):
            slates = helper.drawn_slates(village, seed)
            sayings = true_sayings(village, slates, 60, drawn)
            self.assertIs(fits(village, slates, sayings), True)
            for place in (0, 17, 59):
                one, other, heard = sayings[place]
                self.assertIs(fits(village, slates, sayings[:place] + [(one, other, not heard)]), False)

    def test_bad_sayings(self):
        right = ("a", "b", True)
        wrong = [(thing, 0) for thing in helper.any_objects() if thing not in ([], ())]
        wrong += [([right, thing], 1) for thing in helper.any_objects()]
        bad_ones = [("a", "b", 1), ("a", "b", 0), ("a", "e", True), ("a", "b"), ("a", "b", True, True), ("a", "b", None),
                    ("a", ["b"], True), "abc", (True, "a", "b"), ("e", "a", True), (["a"], "b", True), (None, "a", False),
                    (True, "a", True), (1, "a", True), ("a", "b", "True"), ("a", "b", [True])]
        wrong += [([right] * place + [thing], place) for thing in bad_ones for place in (0, 2)]
        wrong += [(right, 0), ({right: 1}, 0)]
        calls = ((orders_of, ()), (sayers, (None, None, None)), (fault_of, ()), (slates_fit, ()),
                 (way_of_orders, (None, None, None)))
        for thing, index in wrong:
            self.assertRaisesJust(BadSayings, {"index": index}, fits, EXAMPLE, SLATES, thing)
            for function, more in calls:
                self.assertRaisesJust(BadSayings, {"index": index}, function, EXAMPLE, thing, *more)
        for thing in helper.any_objects():
            self.assertRaisesJust(BadSlates, {"slates": thing}, fits, EXAMPLE, thing, None)
            if not isinstance(thing, Village):
                self.assertRaisesJust(BadVillage, {"thing": thing}, fits, thing, None, None)
                for function, more in calls:
                    self.assertRaisesJust(BadVillage, {"thing": thing}, function, thing, None, *more)


class Orders(helper.Told):
    """14.2."""

    def test_by_words(self):
        for village, sayings in drawn_cases(1404, 9):
            orders = orders_by_words(village, sayings)
            self.assertTold(orders_of(village, sayings), orders)
            near = helper.friends(village)
            for person in village.people():
                for x, y in itertools.product(near[person], repeat=2):
                    self.assertTold(sayers(village, sayings, person, x, y), [
                        index for index, saying in enumerate(sayings)
                        if (person, x, y) in said_by_words(village, saying)])
                    told = way_of_orders(village, sayings, person, x, y)
                    length = shortest_by_hand(near[person], orders[person], x, y)
                    self.right_way(told, orders[person], x, y, length)

    def right_way(self, told, pairs, x, y, length):
        self.assertEqual(None if told is None else len(told), length)
        if told is not None:
            self.assertIsInstance(told, list)
            self.assertEqual((told[0], told[-1]), (x, y))
            self.assertLessEqual(set(zip(told, told[1:])), set(pairs))

    def test_one_person_and_two(self):
        for village, sayings in ((ALONE, []), (ALONE, [("a", "a", True)]), (TWO, [("a", "b", True), ("a", "b", False)])):
            self.assertTold(orders_of(village, sayings), {person: [] for person in village.people()})
        self.assertTold(sayers(TWO, [("a", "b", True)], "a", "b", "b"), [])
        self.assertTold(way_of_orders(TWO, [], "a", "b", "b"), ["b"])

    def test_great_villages(self):
        drawn = random.Random(1405)
        for village in helper.great_villages(1406):
            for truths in ((True,), (True, False)):
                sayings = drawn_sayings(village, 60, drawn, truths)
                orders = orders_by_words(village, sayings)
                self.assertTold(orders_of(village, sayings), orders)
                busy = max(village.people(), key=lambda one: len(orders[one]))
                for x, y in list(itertools.product(village.friends(busy), repeat=2))[::29]:
                    self.assertTold(sayers(village, sayings, busy, x, y), [
                        index for index, saying in enumerate(sayings)
                        if (busy, x, y) in said_by_words(village, saying)])
                    length = shortest_by_hand(village.friends(busy), orders[busy], x, y)
                    self.right_way(way_of_orders(village, sayings, busy, x, y), orders[busy], x, y, length)

    def test_no_person_then_not_friends(self):
        for function in (sayers, way_of_orders):
            for thing in helper.any_objects():
                self.assertRaisesJust(NoPerson, {"person": thing}, function, EXAMPLE, TWO_SAID, thing, None, None)
                self.assertRaisesJust(NoPerson, {"person": thing}, function, EXAMPLE, TWO_SAID, "b", thing, None)
                self.assertRaisesJust(NoPerson, {"person": thing}, function, EXAMPLE, TWO_SAID, "b", "a", thing)
            for x in ("b", "d"):
                self.assertRaisesJust(NotFriends, {"one": "b", "other": x}, function, EXAMPLE, TWO_SAID, "b", x, None)
                self.assertRaisesJust(NotFriends, {"one": "b", "other": x}, function, EXAMPLE, TWO_SAID, "b", "a", x)
                self.assertRaisesJust(NotFriends, {"one": "b", "other": x}, function, EXAMPLE, TWO_SAID, "b", x, x)


class SlatesOrARing(helper.Told):
    """14.3."""

    def right_fault(self, village, sayings):
        fault = fault_of(village, sayings)
        near = helper.friends(village)
        own = [index for index, (one, other, heard) in enumerate(sayings)
               if not heard and len(helper.way(village, one, other)) < 3]
        orders = orders_by_words(village, sayings)
        rings = {person: ring_length(near[person], orders[person]) for person in village.people()}
        first = [person for person in village.people() if rings[person] is not None]
        if own:
            self.assertTold(fault, ("own", own[0]))
        elif first:
            word, person, ring = fault
            self.assertEqual((word, person), ("ring", first[0]))
            self.assertIsInstance(ring, list)
            self.assertEqual(len(ring), rings[person])
            self.assertEqual(len(set(ring)), len(ring))
            self.assertGreaterEqual(len(ring), 2)
            self.assertLessEqual(set(zip(ring, ring[1:] + ring[:1])), set(orders[person]))
        else:
            self.assertIs(fault, None)
        return fault

    def test_all_slates(self):
        for village, sayings in drawn_cases(1407, 9):
            near_ones = [saying for saying in sayings if not is_far(village, saying)]
            right = [slates for slates, table in tables_of(village) if are_so(table, near_ones)]
            self.assertTold(slates_fit(village, sayings), right[0] if right else None)
            self.assertIs(self.right_fault(village, sayings) is None, bool(right))

    def test_rings_of_all_lengths(self):
        village = ring_village()
        inner, outer = village.people()[1:7], village.people()[7:]
        drawn = random.Random(1408)
        for many in range(2, 7):
            # that one friend of b has heard of another one says that b met that one ahead
            ring = [(inner[(place + 1) % many], inner[place], True) for place in range(many)]
            self.assertIsNone(slates_fit(village, ring))
            self.assertEqual(len(self.right_fault(village, ring)[2]), many)
            # without one of them there are slates
            self.assertTrue(is_slates(village, slates_fit(village, ring[:-1])))
            self.assertIsNone(self.right_fault(village, ring[1:]))
            more = ring + [(drawn.choice(outer), drawn.choice(outer), True) for _ in range(4)]
            self.right_fault(village, more)
        near = [(inner[1], inner[0], False), (inner[0], inner[1], False)]
        self.assertTold(self.right_fault(village, near)[:2], ("ring", "b"))
        self.assertEqual(self.right_fault(village, near + [("b", "c", False)]), ("own", 2))

    def test_one_person_and_two(self):
        self.assertTold(slates_fit(ALONE, ()), {"a": []})
        self.assertTold(fault_of(ALONE, [("a", "a", True), ("a", "a", False)]), ("own", 1))
        self.assertTold(slates_fit(ALONE, [("a", "a", False)]), None)
        self.assertTold(slates_fit(TWO, [("a", "b", True), ["b", "b", True]]), {"a": ["b"], "b": ["a"]})
        self.assertTold(fault_of(TWO, [("b", "a", False)]), ("own", 0))

    def test_great_villages(self):
        drawn = random.Random(1409)
        for seed, village in enumerate(helper.great_villages(1410)):
            slates = helper.drawn_slates(village, seed)
            sayings = true_sayings(village, slates, 60, drawn)
            self.assertIsNone(self.right_fault(village, sayings))
            found = slates_fit(village, sayings)
            self.assertIs(is_slates(village, found), True)
            table = helper.simulated(village, helper.any_calendar(village, found))
            self.assertTrue(are_so(table, [saying for saying in sayings if not is_far(village, saying)]))
            self.first_rows(village, sayings, found)
            for _ in range(5):
                some = drawn_sayings(village, 60, drawn, (True, True, True, False))
                some = [saying for saying in some if saying[2] or len(helper.way(village, *saying[:2])) > 2]
                fault = self.right_fault(village, some)
                self.assertIs(slates_fit(village, some) is None, fault is not None)

    def first_rows(self, village, sayings, found):
        """That in no row two neighbours, the later one ahead in the village, could change places."""
        orders = orders_by_words(village, sayings)
        near = helper.friends(village)
        for person in village.people():
            left = list(near[person])
            for friend in found[person]:
                ready = [x for x in left if not any(behind == x and ahead in left for ahead, behind in orders[person])]
                self.assertEqual(friend, ready[0])
                left.remove(friend)


class Example(helper.Told):
    """14.7, what it has of orders and slates."""

    def test_example(self):
        self.assertTold(orders_of(EXAMPLE, TWO_SAID), {"a": [], "b": [("a", "c")], "c": [("b", "d")], "d": []})
        self.assertTold(sayers(EXAMPLE, TWO_SAID, "b", "a", "c"), [0, 1])
        self.assertTold(sayers(EXAMPLE, TWO_SAID, "c", "b", "d"), [0])
        self.assertTold(slates_fit(EXAMPLE, TWO_SAID), {"a": ["b"], "b": ["a", "c"], "c": ["b", "d"], "d": ["c"]})
        self.assertTold(fault_of(EXAMPLE, TWO_SAID), None)
        self.assertTold(fault_of(EXAMPLE, [("a", "d", False)]), None)
