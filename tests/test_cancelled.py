"""Points 16.1 and 16.2 and what 16.6 has of them: cancelled meetings, what a meeting carries, idle meetings."""

import random

from heardsince.cancelled import carried, heard_without, idle, ledger_without, lost_by
from heardsince.errors import BadLot, BadSlates, BadVillage, NoPerson, NotFriends
from heardsince.refusals import BadMeetings
from heardsince.villages import Village
from tests import helper

EXAMPLE = helper.example_village()
SLATES = helper.EXAMPLE_SLATES
ALONE = Village(["a"], [], [7])
TWO = Village(["a", "b"], [("b", "a")], [2, 3])
BOTH = {"a": ["b"], "b": ["a"]}


def heard_by_hand(village, slates, cancelled):
    """Who has heard of whom, by letting all meetings but some happen."""
    gone = {frozenset(meeting) for meeting in cancelled}
    return helper.simulated(village, [tie for tie in helper.any_calendar(village, slates)
                                      if frozenset(tie) not in gone])


def heard_in_words(village, slates, cancelled):
    """The same by ways that rise and have no cancelled door, for great villages."""
    gone = {frozenset(meeting) for meeting in cancelled}
    ways = {one: [helper.way(village, other, one) for other in village.people()] for one in village.people()}
    return {one: {way[0] for way in ways[one] if helper.rises(slates, way)
                  and not any(frozenset(door) in gone for door in helper.doors(way))} for one in ways}


def cases(seed):
    """Small villages, all their slates or many, and some with sixty people."""
    for village in helper.small_villages(seed):
        for slates in helper.all_slates(village)[::1 + 2 * (len(village.people()) // 5)][:60]:
            yield village, slates
    for place, village in enumerate(helper.great_villages(seed)):
        yield village, helper.drawn_slates(village, place)


def either_way(meetings, drawn):
    return [list(tie) if drawn.random() < 0.5 else tie[::-1] for tie in drawn.sample(meetings, len(meetings))]


class Cancelled(helper.Told):
    """16.1."""

    def right_ones(self, village, slates, some, heard, pairs):
        news = dict(zip(village.people(), village.news()))
        self.assertTold(ledger_without(village, slates, some),
                        {person: sum(news[other] for other in heard[person]) for person in village.people()})
        for one, other in pairs:
            self.assertIs(heard_without(village, slates, some, one, other), other in heard[one])

    def test_all_lots_of_meetings(self):
        drawn = random.Random(1601)
        for village in helper.small_villages(1602):
            pairs = [(one, other) for one in village.people() for other in village.people()]
            for slates in helper.all_slates(village)[::1 + 3 * (len(village.people()) // 5)][:20]:
                for some in helper.subsets(village.ties()):
                    heard = heard_by_hand(village, slates, some)
                    self.right_ones(village, slates, either_way(some, drawn), heard, pairs)

    def test_great_villages(self):
        drawn = random.Random(1603)
        for seed, village in enumerate(helper.great_villages(1604)):
            slates = helper.drawn_slates(village, seed)
            for many in (0, 1, 5, 30, 59):
                some = drawn.sample(village.ties(), many)
                pairs = [drawn.choices(village.people(), k=2) for _ in range(20)]
                self.right_ones(village, slates, either_way(some, drawn), heard_in_words(village, slates, some), pairs)

    def test_none_and_all(self):
        own = {"a": 1, "b": 1, "c": 1, "d": 1}
        self.assertTold(ledger_without(EXAMPLE, SLATES, []), {"a": 3, "b": 3, "c": 3, "d": 3})
        self.assertTold(ledger_without(EXAMPLE, SLATES, EXAMPLE.ties()), own)
        self.assertTold(ledger_without(ALONE, {"a": []}, ()), {"a": 7})
        self.assertIs(heard_without(ALONE, {"a": []}, (), "a", "a"), True)
        self.assertTold(ledger_without(TWO, BOTH, [("a", "b")]), {"a": 2, "b": 3})
        self.assertIs(heard_without(TWO, BOTH, [["a", "b"]], "a", "b"), False)

    def test_bad_meetings(self):
        wrong = [(thing, 0) for thing in helper.any_objects() if thing not in ([], ())]
        wrong += [([("a", "b"), ("b", "a")], 1), ([("a", "b"), ("a", "b")], 1), ([("a", "c")], 0), ("ab", 0),
                  ([("c", "b"), ("c", "d"), ("b", "c"), None], 2), ([("a", "b"), ("b", "c", "d")], 1),
                  ([("a", "b"), "bc"], 1), ([("a", "b"), ("b", ["c"])], 1), ({("a", "b"): 1}, 0)]
        for thing, index in wrong:
            self.assertRaisesJust(BadMeetings, {"index": index}, ledger_without, EXAMPLE, SLATES, thing)
            self.assertRaisesJust(BadMeetings, {"index": index}, heard_without, EXAMPLE, SLATES, thing, None, None)


class Carried(helper.Told):
    """16.2."""

    def test_what_is_lost_without(self):
        for village, slates in cases(1605):
            ahead = heard_in_words(village, slates, [])
            ties = village.ties()
            for one, other in ties if len(ties) < 10 else ties[::20]:
                behind = heard_in_words(village, slates, [(one, other)])
                lost = {(hearer, teller) for hearer in ahead for teller in ahead[hearer] - behind[hearer]}
                self.assertTold(lost_by(village, slates, one, other), len(lost))
                self.assertTold(lost_by(village, slates, other, one), len(lost))
                for first, second in ((one, other), (other, one)):
                    told, hearing = carried(village, slates, first, second)
                    beyond = [person for person in village.people() if helper.way(village, first, person)[1:2] == [second]]
                    right = {(hearer, teller) for hearer, teller in lost if hearer in beyond}
                    self.assertEqual({(hearer, teller) for hearer in hearing for teller in told}, right)
                    self.assertTold(told, [person for person in village.people() if person in told])
                    self.assertTold(hearing, [person for person in village.people() if person in hearing])
                    self.assertTrue(first in told and second in hearing)
                    self.assertIs(type(carried(village, slates, first, second)), tuple)

    def test_idle(self):
        drawn = random.Random(1606)
        for village, slates in cases(1607):
            people = village.people()
            for many in {1, min(2, len(people)), drawn.randint(1, len(people)), len(people)}:
                hearers = drawn.sample(people, many)
                ahead = heard_in_words(village, slates, [])
                right = [tie for tie in village.ties() if len(people) > 10 or all(
                    heard_in_words(village, slates, [tie])[one] == ahead[one] for one in hearers)]
                told = idle(village, slates, hearers)
                self.assertTold(idle(village, slates, tuple(hearers[::-1])), told)
                if len(people) <= 10:
                    self.assertTold(told, right)
                else:
                    for tie in village.ties()[::12]:
                        behind = heard_in_words(village, slates, [tie])
                        self.assertIs(tie in told, all(behind[one] == ahead[one] for one in hearers))
                # all of them together
                behind = heard_in_words(village, slates, told)
                self.assertTrue(all(behind[one] == ahead[one] for one in hearers))

    def test_one_person_and_two(self):
        self.assertTold(idle(ALONE, {"a": []}, ["a"]), [])
        self.assertTold(idle(TWO, BOTH, ["a"]), [])
        self.assertTold(carried(TWO, BOTH, "a", "b"), (["a"], ["b"]))
        self.assertTold(lost_by(TWO, BOTH, "a", "b"), 2)

    def test_errors(self):
        for thing in helper.any_objects():
            for function in (carried, lost_by):
                self.assertRaisesJust(NoPerson, {"person": thing}, function, EXAMPLE, SLATES, thing, "?")
                self.assertRaisesJust(NoPerson, {"person": thing}, function, EXAMPLE, SLATES, "a", thing)
            if not (isinstance(thing, list) and thing[:1] == ["a"]):
                self.assertRaisesJust(BadLot, {"index": 0}, idle, EXAMPLE, SLATES, thing)
        for function in (carried, lost_by):
            self.assertRaisesJust(NotFriends, {"one": "a", "other": "c"}, function, EXAMPLE, SLATES, "a", "c")
            self.assertRaisesJust(NotFriends, {"one": "a", "other": "a"}, function, EXAMPLE, SLATES, "a", "a")
        self.assertRaisesJust(BadLot, {"index": 1}, idle, EXAMPLE, SLATES, ["a", "a"])

    def test_errors_in_order(self):
        for thing in helper.any_objects():
            for function, more in ((heard_without, (None, None, None)), (ledger_without, (None,)),
                                   (carried, (None, None)), (lost_by, (None, None)), (idle, (None,))):
                if not isinstance(thing, Village):
                    self.assertRaisesJust(BadVillage, {"thing": thing}, function, thing, None, *more)
                self.assertRaisesJust(BadSlates, {"slates": thing}, function, EXAMPLE, thing, *more)
            self.assertRaisesJust(NoPerson, {"person": thing}, heard_without, EXAMPLE, SLATES, [], thing, None)
            self.assertRaisesJust(NoPerson, {"person": thing}, heard_without, EXAMPLE, SLATES, [], "a", thing)


class Example(helper.Told):
    """16.6, what it has of these."""

    def test_example(self):
        self.assertTold(carried(EXAMPLE, SLATES, "c", "b"), (["c"], ["a", "b"]))
        self.assertTold(lost_by(EXAMPLE, SLATES, "c", "b"), 4)
        self.assertTold(idle(EXAMPLE, SLATES, ["a"]), [("c", "d")])
