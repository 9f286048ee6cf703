"""Points 21.4 and 21.5 and what 21.6 has of them: wishers and askers."""

import itertools
import random

from heardsince.calendars import is_calendar, slates_of
from heardsince.callerwishes import beat_asker, run_asker, same_numbers, wished_calendar
from heardsince.errors import BadLot, BadSlates, BadVillage, HeardError
from heardsince.ledgerbreaks import slates_of_ledger
from heardsince.refusals import BadAnswer, BadCaller, BadWish
from heardsince.sides import told_but_two
from heardsince.villages import Village
from tests import helper

EXAMPLE = helper.example_village()
SLATES = helper.EXAMPLE_SLATES
ALONE = Village(["a"], [], [7])
TWO = Village(["a", "b"], [("b", "a")], [2, 3])
BOTH = {"a": ["b"], "b": ["a"]}


def calendar_by_wishes(village, wisher, choose):
    """The calendar, and what a wisher is asked, if of those who can meet some are chosen."""
    near = helper.friends(village)
    met = {person: [] for person in near}
    heard = {person: {person} for person in near}
    wishes, calendar, asked = {}, [], []
    turn = village.people()
    while turn:
        for person in turn:
            if len(met[person]) < len(near[person]):
                known = [one for one in village.people() if one in heard[person]]
                asked.append((person, list(met[person]), known))
                wishes[person] = wisher(person, list(met[person]), list(known))
        ready = [tie for tie in village.ties() if tie not in calendar and wishes[tie[0]] == tie[1] and wishes[tie[1]] == tie[0]]
        turn = []
        if ready:
            one, other = choose(ready)
            calendar.append((one, other))
            met[one].append(other)
            met[other].append(one)
            heard[one] = heard[other] = heard[one] | heard[other]
            turn = [person for person in village.people() if person in (one, other)]
    return calendar, asked


def wisher_of(village, seed):
    """A wisher that draws, always the same for the same."""
    near = helper.friends(village)

    def wisher(person, met, heard):
        return random.Random(repr((seed, person, met, heard))).choice([one for one in near[person] if one not in met])
    return wisher


def asker_of_all(village):
    """An asker that asks everybody, and tells the right slates."""
    def asker(pairs):
        left = [person for person in village.people() if person not in [one for one, number in pairs]]
        return left[-1] if left else slates_of_ledger(village, dict(pairs))
    return asker


def asker_but_two(village, one, other):
    """An asker that asks all but two friends, and tells the right slates."""
    def asker(pairs):
        left = [person for person in village.people() if person not in [who for who, number in pairs] + [one, other]]
        return left[0] if left else told_but_two(village, dict(pairs), one, other)
    return asker


class Wishers(helper.Told):
    """21.4."""

    def right_ones(self, village, wisher):
        asked = []

        def noted(person, met, heard):
            self.assertIs(type(met), list)
            self.assertIs(type(heard), list)
            asked.append((person, list(met), list(heard)))
            wish = wisher(person, met, heard)
            # both lists are the wisher's own
            met.append("spoilt")
            heard.clear()
            return wish

        calendar, steps = calendar_by_wishes(village, wisher, lambda ready: ready[0])
        self.assertTold(wished_calendar(village, noted), calendar)
        self.assertTold(asked, steps)
        self.assertIs(is_calendar(village, calendar), True)
        return slates_of(village, calendar)

    def test_small_villages(self):
        for seed, village in enumerate(helper.small_villages(2121) + helper.some_villages(9, 6, 2122)):
            for number in range(4):
                wisher = wisher_of(village, seed + number)
                slates = self.right_ones(village, wisher)
                # whichever of those who can meet meets first, the slates are the same
                for choose in (lambda ready: ready[-1], random.Random(seed).choice):
                    self.assertTold(slates_of(village, calendar_by_wishes(village, wisher, choose)[0]), slates)

    def test_great_villages(self):
        for seed, village in enumerate(helper.great_villages(2123)):
            self.right_ones(village, wisher_of(village, seed))

    def test_slates_are_wished(self):
        for village in helper.small_villages(2124):
            for slates in helper.all_slates(village)[::1 + len(village.people()) // 5]:
                self.assertTold(self.right_ones(village, lambda person, met, heard: slates[person][len(met)]), slates)

    def test_one_person_and_two(self):
        self.assertTold(wished_calendar(ALONE, len), [])
        self.right_ones(TWO, lambda person, met, heard: {"a": "b", "b": "a"}[person])

    def test_bad_wish(self):
        for thing in helper.any_objects() + ["d", "b", "e", ["a"], ("a",), {"a": 1}]:
            asked = []

            def wisher(person, met, heard):
                asked.append(person)
                return thing if len(asked) == 2 else "b"

            self.assertRaisesJust(BadWish, {"thing": thing}, wished_calendar, EXAMPLE, wisher)
            self.assertEqual(asked, ["a", "b"])
        # a friend who was met is none any more
        self.assertRaisesJust(BadWish, {"thing": "a"}, wished_calendar, EXAMPLE,
                              lambda person, met, heard: {"a": "b", "b": "a", "c": "b", "d": "c"}[person])

    def test_what_a_wisher_raises_comes_out(self):
        def wisher(person, met, heard):
            raise KeyError("mine")

        with self.assertRaises(KeyError):
            wished_calendar(EXAMPLE, wisher)

    def test_errors_in_order(self):
        for thing in helper.any_objects():
            if not isinstance(thing, Village):
                self.assertRaisesJust(BadVillage, {"thing": thing}, wished_calendar, thing, None)
        for thing in helper.no_functions():
            self.assertRaisesJust(BadCaller, {"thing": thing}, wished_calendar, EXAMPLE, thing)
            self.assertRaisesJust(BadCaller, {"thing": thing}, wished_calendar, ALONE, thing)


class Askers(helper.Told):
    """21.5."""

    def test_all_and_all_but_two(self):
        for village in helper.small_villages(2131)[1:]:
            every = helper.all_slates(village)
            for slates in every[::1 + len(every) // 10]:
                numbers = helper.numbers_by_hand(village, slates)
                asked = []

                def asker(pairs):
                    self.assertIs(type(pairs), list)
                    self.assertTrue(all(type(pair) is tuple for pair in pairs))
                    asked.append(list(pairs))
                    left = [person for person in village.people()[::-1] if person not in dict(pairs)]
                    # the list is the asker's own
                    pairs.append("spoilt")
                    return left[0] if left else helper.as_tuples(slates)

                told = run_asker(village, helper.as_tuples(slates), asker)
                self.assertTold(told, (village.people()[::-1], slates))
                pairs = [(person, numbers[person]) for person in village.people()[::-1]]
                self.assertTold(asked, [pairs[:many] for many in range(len(pairs) + 1)])
                self.assertTold(run_asker(village, slates, asker_of_all(village))[1], slates)
            self.assertTold(beat_asker(village, asker_of_all(village)), None)
            for one, other in village.ties():
                self.assertTold(beat_asker(village, asker_but_two(village, one, other)), None)

    def test_beaten(self):
        for village in helper.small_villages(2132):
            every = helper.all_slates(village)
            for slates in every[::1 + len(every) // 4]:
                others = [other for other in every if other != slates]
                # who asks nobody is beaten by the first other slates
                self.assertTold(beat_asker(village, lambda pairs: helper.as_tuples(slates)), others[0] if others else None)
            for person in village.people():
                numbers = [helper.numbers_by_hand(village, slates)[person] for slates in every]
                told = {number: slates for number, slates in zip(numbers, every)}
                wrong = [slates for number, slates in zip(numbers, every) if told[number] != slates]
                asker = lambda pairs: told[pairs[0][1]] if pairs else person
                self.assertTold(beat_asker(village, asker), wrong[0] if wrong else None)

    def test_asked_in_the_order_of_slates(self):
        rows = []

        def asker(pairs):
            rows.append(list(pairs))
            return asker_of_all(EXAMPLE)(pairs)

        self.assertTold(beat_asker(EXAMPLE, asker), None)
        right = []
        for slates in helper.all_slates(EXAMPLE):
            numbers = helper.numbers_by_hand(EXAMPLE, slates)
            pairs = [(person, numbers[person]) for person in "dcba"]
            right += [pairs[:many] for many in range(5)]
        self.assertTold(rows, right)

    def test_bad_answer(self):
        for thing in helper.any_objects() + ["e", "A", ["a"], {**SLATES, "a": ["c"]}, {"a": ["b"]}]:
            asked = []

            def asker(pairs):
                asked.append(len(pairs))
                return thing if pairs else "c"

            self.assertRaisesJust(BadAnswer, {"thing": thing}, run_asker, EXAMPLE, SLATES, asker)
            self.assertRaisesJust(BadAnswer, {"thing": thing}, beat_asker, EXAMPLE, asker)
            self.assertEqual(asked, [0, 1, 0, 1])
        # who was asked is not asked again
        for function, more in ((run_asker, (SLATES,)), (beat_asker, ())):
            for row in (["a", "b", "c", "b"], ["a", "a"], ["a", "b", "c", "d", "a"]):
                self.assertRaisesJust(BadAnswer, {"thing": row[-1]}, function, EXAMPLE, *more, lambda pairs: row[len(pairs)])

    def test_askers_that_change_what_they_have(self):
        slates = {person: list(slate) for person, slate in SLATES.items()}
        told = {person: list(slate) for person, slate in SLATES.items()}

        def asker(pairs):
            slates.clear()
            return told if pairs else "a"

        answer = run_asker(EXAMPLE, slates, asker)
        told.clear()
        self.assertTold(answer, (["a"], SLATES))

    def test_what_an_asker_raises_comes_out(self):
        def asker(pairs):
            raise HeardError()

        for function, more in ((run_asker, (SLATES,)), (beat_asker, ())):
            with self.assertRaises(HeardError) as caught:
                function(EXAMPLE, *more, asker)
            self.assertIs(type(caught.exception), HeardError)

    def test_same_numbers(self):
        for village in helper.small_villages(2133):
            every = [(slates, helper.numbers_by_hand(village, slates)) for slates in helper.all_slates(village)]
            for lot in helper.subsets(village.people())[::1 + len(village.people()) // 6]:
                told = same_numbers(village, lot)
                self.assertTold(same_numbers(village, tuple(lot[::-1])), told)
                lots = [tuple(numbers[person] for person in lot) for slates, numbers in every]
                self.assertIs(told is None, len(set(lots)) == len(lots))
                if told is not None:
                    self.assertIs(type(told), tuple)
                    one, other = told
                    self.assertNotEqual(one, other)
                    found = [[numbers for slates, numbers in every if repr(slates) == repr(these)][0] for these in told]
                    self.assertTrue(all(found[0][person] == found[1][person] for person in lot))
            for one, other in village.ties():
                rest = [person for person in village.people() if person not in (one, other)]
                self.assertTold(same_numbers(village, rest), None)

    def test_one_person_and_two(self):
        self.assertTold(run_asker(ALONE, {"a": []}, lambda pairs: {"a": ()}), ([], {"a": []}))
        self.assertTold(beat_asker(ALONE, lambda pairs: {"a": []} if pairs else "a"), None)
        self.assertTold(same_numbers(ALONE, []), None)
        self.assertTold(same_numbers(TWO, []), None)
        self.assertTold(beat_asker(TWO, lambda pairs: BOTH), None)

    def test_bad_lot(self):
        wrong = [(thing, 0) for thing in helper.any_objects()
                 if thing not in ([], ()) and not (isinstance(thing, list) and thing[:1] == ["a"])]
        wrong += [(["a", "a"], 1), (("b", "a", "b"), 2), (["a", "e"], 1), (["a", ["b"]], 1), ("ab", 0)]
        for thing, index in wrong:
            self.assertRaisesJust(BadLot, {"index": index}, same_numbers, EXAMPLE, thing)

    def test_errors_in_order(self):
        for thing in helper.any_objects():
            self.assertRaisesJust(BadSlates, {"slates": thing}, run_asker, EXAMPLE, thing, None)
            if not isinstance(thing, Village):
                self.assertRaisesJust(BadVillage, {"thing": thing}, run_asker, thing, None, None)
                self.assertRaisesJust(BadVillage, {"thing": thing}, beat_asker, thing, None)
                self.assertRaisesJust(BadVillage, {"thing": thing}, same_numbers, thing, None)
        for thing in helper.no_functions():
            self.assertRaisesJust(BadCaller, {"thing": thing}, run_asker, EXAMPLE, SLATES, thing)
            self.assertRaisesJust(BadCaller, {"thing": thing}, beat_asker, EXAMPLE, thing)


class Example(helper.Told):
    """21.6, what it has of these."""

    def test_example(self):
        near = helper.friends(EXAMPLE)
        told = wished_calendar(EXAMPLE, lambda person, met, heard: [one for one in near[person] if one not in met][0])
        self.assertTold(told, [("a", "b"), ("b", "c"), ("c", "d")])
        pair = same_numbers(EXAMPLE, ["a"])
        numbers = [helper.numbers_by_hand(EXAMPLE, slates) for slates in pair]
        self.assertEqual(numbers[0]["a"], numbers[1]["a"])
        rows = [{"a": ["b"], "b": ["a", "c"], "c": row, "d": ["c"]} for row in (["b", "d"], ["d", "b"])]
        self.assertEqual([helper.numbers_by_hand(EXAMPLE, slates)["a"] for slates in rows], [2, 2])
        self.assertTrue(all(len(list(itertools.chain(*slates.values()))) == 6 for slates in pair))
