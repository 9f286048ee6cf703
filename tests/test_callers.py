"""Points 21.1 to 21.3 and what 21.6 has of them: keepers-back, silent people, the fewest silent ones."""

import itertools
import random

from heardsince.callers import apart_rumours, fewest_silent, kept_table, silent_heard
from heardsince.errors import BadCalendar, BadLot, BadSlates, BadVillage, HeardError, NoPerson
from heardsince.refusals import BadCaller, BadTelling, NoGoBetween
from heardsince.tables import table
from heardsince.villages import Village
from tests import helper

EXAMPLE = helper.example_village()
SLATES = helper.EXAMPLE_SLATES
CALENDAR = helper.EXAMPLE_CALENDAR
ALONE = Village(["a"], [], [7])
TWO = Village(["a", "b"], [("b", "a")], [2, 3])


def all_on(teller, listener, heard):
    return heard


def nothing(teller, listener, heard):
    return ()


def own_alone(teller, listener, heard):
    return [teller]


def all_but_own(teller, listener, heard):
    return [person for person in heard if person != teller]


def table_by_keeper(village, calendar, keeper):
    """The table, and what a keeper is asked, by letting the meetings happen."""
    heard = {person: {person} for person in village.people()}
    asked = []
    ties = village.ties()
    for meeting in calendar:
        one, other = tuple(meeting) if tuple(meeting) in ties else tuple(meeting)[::-1]
        told = []
        for teller, listener in ((one, other), (other, one)):
            known = [person for person in village.people() if person in heard[teller]]
            asked.append((teller, listener, known))
            told.append(keeper(teller, listener, list(known)))
        heard[other] |= set(told[0])
        heard[one] |= set(told[1])
    return helper.in_order(village, heard), asked


def drawn_keeper(seed):
    """A keeper that tells some, always the same of the same."""
    def keeper(teller, listener, heard):
        drawn = random.Random(repr((seed, teller, listener, heard)))
        some = drawn.sample(heard, drawn.randint(0, len(heard)))
        return some if drawn.random() < 0.5 else tuple(some)
    return keeper


class Keepers(helper.Told):
    """21.1."""

    def right_ones(self, village, calendar, keeper):
        asked = []

        def noted(teller, listener, heard):
            asked.append((teller, listener, list(heard)))
            self.assertIs(type(heard), list)
            told = keeper(teller, listener, heard)
            kept = told[:]
            # the list is the keeper's own
            if heard is not told:
                heard.append("spoilt")
            return kept

        right, steps = table_by_keeper(village, calendar, keeper)
        self.assertTold(kept_table(village, calendar, noted), right)
        self.assertTold(asked, steps)
        return right

    def test_all_calendars(self):
        for village in helper.small_villages(2101):
            for number, calendar in enumerate(helper.all_calendars(village)[::1 + len(village.people()) // 5]):
                heard = helper.in_order(village, helper.simulated(village, calendar))
                about = [list(meeting[::-1]) for meeting in calendar]
                self.assertTold(self.right_ones(village, about, all_on), heard)
                self.right_ones(village, calendar, nothing)
                self.right_ones(village, calendar, own_alone)
                self.right_ones(village, calendar, all_but_own)
                less = self.right_ones(village, tuple(about), drawn_keeper(number))
                self.assertTrue(all(set(less[person]) <= set(heard[person]) for person in less))

    def test_great_villages(self):
        for seed, village in enumerate(helper.great_villages(2102)):
            slates = helper.drawn_slates(village, seed)
            calendar = helper.any_calendar(village, slates)
            self.assertTold(self.right_ones(village, calendar, all_on), table(village, slates))
            self.assertTold(self.right_ones(village, calendar, nothing), {one: [one] for one in village.people()})
            self.right_ones(village, calendar, drawn_keeper(seed))

    def test_keepers_that_change_what_they_have(self):
        calendar = [list(meeting) for meeting in CALENDAR]
        told = []

        def keeper(teller, listener, heard):
            calendar[:] = [("spoilt", "spoilt")]
            for row in told:
                row[:] = ["spoilt"]
            heard.reverse()
            told.append(heard)
            return heard

        self.assertTold(kept_table(EXAMPLE, calendar, keeper), table(EXAMPLE, SLATES))

    def test_the_lists_are_the_keepers_own(self):
        def keeper(teller, listener, heard):
            told = tuple(heard)
            heard.clear()
            return told

        self.assertTold(kept_table(EXAMPLE, CALENDAR, keeper), table(EXAMPLE, SLATES))

        def adding(teller, listener, heard):
            heard.append("d" if teller != "d" else "a")
            return heard[-1:]

        self.assertRaises(BadTelling, kept_table, EXAMPLE, CALENDAR, adding)

    def test_one_person_and_two(self):
        self.assertTold(kept_table(ALONE, [], len), {"a": ["a"]})
        self.right_ones(TWO, [("a", "b")], all_on)
        self.assertTold(kept_table(TWO, [("a", "b")], lambda teller, listener, heard: heard if teller == "a" else []),
                        {"a": ["a"], "b": ["a", "b"]})

    def test_bad_telling(self):
        wrong = [thing for thing in helper.any_objects() if thing not in ([], ())]
        for thing in wrong + [["e"], ["b", "b"], ["d"], "b", {"b": 1}, [["b"]], ("b", None), lambda: []]:
            for at in range(5):
                asked = []

                def keeper(teller, listener, heard):
                    asked.append(teller)
                    return thing if len(asked) == at + 1 else []

                self.assertRaisesJust(BadTelling, {"thing": thing}, kept_table, EXAMPLE, CALENDAR, keeper)
                # at once
                self.assertEqual(len(asked), at + 1)

    def test_what_a_keeper_raises_comes_out(self):
        def keeper(teller, listener, heard):
            raise KeyError("mine")

        with self.assertRaises(KeyError):
            kept_table(EXAMPLE, CALENDAR, keeper)

        def angry(teller, listener, heard):
            raise HeardError()

        with self.assertRaises(HeardError) as caught:
            kept_table(EXAMPLE, CALENDAR, angry)
        self.assertIs(type(caught.exception), HeardError)

    def test_errors_in_order(self):
        for thing in helper.any_objects():
            if not isinstance(thing, Village):
                self.assertRaisesJust(BadVillage, {"thing": thing}, kept_table, thing, None, None)
            self.assertRaisesJust(BadCalendar, {"calendar": thing}, kept_table, EXAMPLE, thing, None)
        for thing in helper.no_functions():
            self.assertRaisesJust(BadCaller, {"thing": thing}, kept_table, EXAMPLE, CALENDAR, thing)
            self.assertRaisesJust(BadCaller, {"thing": thing}, kept_table, ALONE, [], thing)


class Silent(helper.Told):
    """21.2 and 21.3."""

    def kept_silent(self, village, slates, lot):
        """Who has heard of whom if a lot tell but their own news."""
        def keeper(teller, listener, heard):
            return [teller] if teller in lot else heard
        return table_by_keeper(village, helper.any_calendar(village, slates), keeper)[0]

    def test_all_lots(self):
        for village in helper.small_villages(2111):
            people = village.people()
            for slates in helper.all_slates(village)[::1 + 3 * (len(people) // 5)][:30]:
                for lot in helper.subsets(people)[::1 + len(people) // 5]:
                    heard = self.kept_silent(village, slates, lot)
                    for one, other in itertools.product(people, repeat=2):
                        self.assertIs(silent_heard(village, slates, tuple(lot[::-1]), one, other), other in heard[one])

    def lots_apart(self, village, drawn):
        """Some hearers and tellers, none of them the same or friends."""
        near = helper.friends(village)
        hearers = drawn.sample(village.people(), drawn.randint(0, max(1, len(near) // 3)))
        left = [one for one in village.people() if one not in hearers and not set(near[one]) & set(hearers)]
        return hearers, drawn.sample(left, drawn.randint(0, len(left)))

    def right_ones(self, village, slates, hearers, tellers):
        lot = fewest_silent(village, slates, hearers, tellers)
        pairs = apart_rumours(village, slates, hearers, tellers)
        ways = {(one, other): helper.way(village, other, one) for one in hearers for other in tellers}
        ways = {pair: row for pair, row in ways.items() if helper.rises(slates, row)}
        self.assertTold(lot, [person for person in village.people() if person in lot])
        self.assertTrue(all(set(lot) & set(row[1:-1]) for row in ways.values()))
        self.assertTrue(all(type(pair) is tuple and pair in ways for pair in pairs))
        between = [person for pair in pairs for person in ways[pair][1:-1]]
        self.assertEqual(len(set(between)), len(between))
        # by this alone both are as few, and as many, as can be
        self.assertEqual(len(lot), len(pairs))
        for one, other in list(itertools.product(hearers, tellers))[:30]:
            self.assertIs(silent_heard(village, slates, lot, one, other), False)
        for function, told in ((fewest_silent, lot), (apart_rumours, pairs)):
            self.assertTold(function(village, slates, tuple(hearers[::-1]), tellers[::-1]), told)
        return lot, ways

    def test_small_villages(self):
        drawn = random.Random(2112)
        for village in helper.small_villages(2113) + helper.some_villages(8, 10, 2114):
            for number in range(8):
                slates = helper.drawn_slates(village, number)
                lot, ways = self.right_ones(village, slates, *self.lots_apart(village, drawn))
                if len(village.people()) < 7:
                    least = min(len(some) for some in helper.subsets(village.people())
                                if all(set(some) & set(row[1:-1]) for row in ways.values()))
                    self.assertEqual(len(lot), least)

    def test_great_villages(self):
        drawn = random.Random(2115)
        for seed, village in enumerate(helper.great_villages(2116) + helper.some_villages(60, 5, 2117)):
            for number in range(3):
                self.right_ones(village, helper.drawn_slates(village, seed + number), *self.lots_apart(village, drawn))

    def test_nobody(self):
        for hearers, tellers in (([], []), (["a"], []), ((), ["a", "b", "c", "d"])):
            self.assertTold(fewest_silent(EXAMPLE, SLATES, hearers, tellers), [])
            self.assertTold(apart_rumours(EXAMPLE, SLATES, hearers, tellers), [])
        self.assertIs(silent_heard(ALONE, {"a": []}, ["a"], "a", "a"), True)
        self.assertIs(silent_heard(TWO, {"a": ["b"], "b": ["a"]}, ["a", "b"], "a", "b"), True)

    def test_no_go_between(self):
        a, b, c, d = "a", "b", "c", "d"
        cases = (([a], [a], (a, a)), ([a], [c, b], (a, b)), ([d, a], [b, a], (a, b)), ([c, a], [a, d, b], (c, d)),
                 ((a, c, d), (c, d, b), (a, b)), ([b, d], (b,), (b, b)))
        for function in (fewest_silent, apart_rumours):
            for hearers, tellers, (one, other) in cases:
                self.assertRaisesJust(NoGoBetween, {"one": one, "other": other}, function, EXAMPLE, SLATES, hearers, tellers)

    def test_bad_lot(self):
        wrong = [(thing, 0) for thing in helper.any_objects()
                 if thing not in ([], ()) and not (isinstance(thing, list) and thing[:1] == ["a"])]
        wrong += [(["a", "a"], 1), (("b", "a", "b"), 2), (["a", "e"], 1), (["a", ["b"]], 1), ("ab", 0)]
        for thing, index in wrong:
            self.assertRaisesJust(BadLot, {"index": index}, silent_heard, EXAMPLE, SLATES, thing, None, None)
            for function in (fewest_silent, apart_rumours):
                self.assertRaisesJust(BadLot, {"index": index}, function, EXAMPLE, SLATES, thing, None)
                self.assertRaisesJust(BadLot, {"index": index}, function, EXAMPLE, SLATES, ["a", "b"], thing)

    def test_errors_in_order(self):
        for function, more in ((silent_heard, (None, None, None)), (fewest_silent, (None, None)),
                               (apart_rumours, (None, None))):
            for thing in helper.any_objects():
                if not isinstance(thing, Village):
                    self.assertRaisesJust(BadVillage, {"thing": thing}, function, thing, None, *more)
                self.assertRaisesJust(BadSlates, {"slates": thing}, function, EXAMPLE, thing, *more)
        for thing in helper.any_objects():
            self.assertRaisesJust(NoPerson, {"person": thing}, silent_heard, EXAMPLE, SLATES, [], thing, "?")
            self.assertRaisesJust(NoPerson, {"person": thing}, silent_heard, EXAMPLE, SLATES, ["a"], "a", thing)


class Example(helper.Told):
    """21.6, what it has of these."""

    def test_example(self):
        ahead = table(EXAMPLE, SLATES)
        for one, other in itertools.product("abcd", repeat=2):
            right = other in (["a", "b"] if one == "a" else ahead[one])
            self.assertIs(silent_heard(EXAMPLE, SLATES, ["b"], one, other), right)
        self.assertTold(fewest_silent(EXAMPLE, SLATES, ["a"], ["c"]), ["b"])
        self.assertTold(apart_rumours(EXAMPLE, SLATES, ["a"], ["c"]), [("a", "c")])
