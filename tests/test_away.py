"""Points 10.5, 10.6 and what 10.7 has of them: left days, crowds, plans by which nobody meets when they are away."""

import itertools
import random

from heardsince.away import crowd, first_away, is_crowd, least_days_away, left_days, plan_away, slow_chain
from heardsince.days import fewest_days, is_chain, is_plan, slates_of_plan
from heardsince.errors import BadAway, BadDays, BadSlates, BadVillage, NoPerson
from heardsince.villages import Village
from tests import helper
from tests.test_days import all_chains, all_plans, by_slates

EXAMPLE = helper.example_village()
SLATES = helper.EXAMPLE_SLATES
AWAY = {"b": [1], "c": [2]}
ALONE = Village(["a"], [], [1])
TWO = Village(["a", "b"], [("b", "a")], [1, 1])


def keeps_away(plan, away):
    return not any(plan[tie] in away.get(person, ()) for tie in plan for person in tie)


def drawn_away(village, most, drawn, share=0.5):
    """Days on which some people are away."""
    return {person: drawn.sample(range(1, most + 1), drawn.randint(0, (most + 1) // 2))
            for person in drawn.sample(village.people(), len(village.people())) if drawn.random() < share}


def left_by_words(village, away, days, one, other):
    """The left days of one with other, straight from the words, by all rows of days of further friends."""
    further = [friend for friend in helper.friends(village)[other] if friend != one]
    lists = [left_by_words(village, away, days, other, friend) for friend in further]
    rows = [row for row in itertools.product(*lists) if len(set(row)) == len(row)]
    return [day for day in range(1, days + 1) if day not in list(away.get(one, ())) + list(away.get(other, ()))
            and any(day not in row for row in rows)]


def left_by_flow(village, away, days):
    """The left days of all pairs of friends of a great village, by an own matching for each day."""
    near = helper.friends(village)
    pairs = sorted(helper.pairs_of_friends(village), key=lambda pair: len(village.behind(*pair)))
    left = {}
    for one, other in pairs:
        further = [friend for friend in near[other] if friend != one]
        left[one, other] = [day for day in range(1, days + 1)
                            if day not in away.get(one, ()) and day not in away.get(other, ())
                            and can_all(further, {friend: [x for x in left[other, friend] if x != day]
                                                  for friend in further})]
    return left


def can_all(friends, lists):
    """Whether all friends can have unlike days of their lists."""
    holder = {}

    def place(friend, seen):
        for day in lists[friend]:
            if day not in seen:
                seen.add(day)
                if day not in holder or place(holder[day], seen):
                    holder[day] = friend
                    return True
        return False

    return all(place(friend, set()) for friend in friends)


class LeftDays(helper.Told):
    """10.5."""

    def cases(self, count):
        drawn = random.Random(1007)
        for village in helper.villages(4) + helper.villages(5)[-20::5] + helper.some_villages(6, 4, 1008):
            yield village, {}
            for _ in range(count):
                yield village, drawn_away(village, 5, drawn)

    def test_by_words(self):
        for village, away in self.cases(6):
            for days in range(5):
                right = {(one, other): left_by_words(village, away, days, one, other)
                         for one, other in helper.pairs_of_friends(village)}
                self.assertTold(left_days(village, away, days), right)
                for person in village.people():
                    self.right_crowd(village, away, days, person, right)

    def right_crowd(self, village, away, days, person, left):
        crowds = [some for some in helper.subsets(helper.friends(village)[person])
                  if len({day for friend in some for day in left[person, friend]}) < len(some)]
        told = crowd(village, away, days, person)
        if told is None:
            self.assertEqual(crowds, [])
        else:
            self.assertIn(repr(told), [repr(some) for some in crowds])
        for some in helper.subsets(helper.friends(village)[person]):
            self.assertIs(is_crowd(village, away, days, person, some), some in crowds)
            self.assertIs(is_crowd(village, away, days, person, tuple(some[::-1])), some in crowds)
        self.assertIs(plan_away(village, away, days) is None, told is not None)

    def test_all_plans(self):
        for village, away in self.cases(8):
            plans = [[plan for plan in all_plans(village, days) if keeps_away(plan, away)] for days in range(6)]
            for days in range(6):
                told = plan_away(village, away, days)
                self.assertIs(told is None, plans[days] == [])
                if told is not None:
                    self.assertIn(repr(told), [repr(plan) for plan in plans[days]])
            least = [days for days in range(6) if plans[days]]
            if least:
                self.assertTold(least_days_away(village, away), least[0])
            else:
                self.assertGreater(least_days_away(village, away), 5)

    def test_one_person_and_two(self):
        for away in ({}, {"a": []}, {"a": (1, 2)}):
            self.assertTold(left_days(ALONE, away, 3), {})
            self.assertTold(plan_away(ALONE, away, 0), {})
            self.assertTold(crowd(ALONE, away, 0, "a"), None)
            self.assertIs(is_crowd(ALONE, away, 0, "a", []), False)
            self.assertTold(least_days_away(ALONE, away), 0)
        self.assertTold(left_days(TWO, {"a": [2], "b": [1, 4]}, 5), {("a", "b"): [3, 5], ("b", "a"): [3, 5]})
        self.assertTold(plan_away(TWO, {"a": [2], "b": [1, 4]}, 2), None)
        self.assertTold(crowd(TWO, {"a": [2], "b": [1, 4]}, 2, "b"), ["a"])
        self.assertTold(plan_away(TWO, {"a": [2], "b": [1, 4]}, 3), {("b", "a"): 3})
        self.assertTold(least_days_away(TWO, {"a": [2], "b": [1, 4]}), 3)
        self.assertTold(least_days_away(TWO, {"a": list(range(1, 41)), "b": list(range(80, 40, -1))}), 81)
        self.assertTold(least_days_away(TWO, {"a": [10 ** 15]}), 1)

    def great_ones(self):
        drawn = random.Random(1009)
        for place, village in enumerate(helper.great_villages(1010) + [helper.star_village(41)]):
            friends = max(map(len, helper.friends(village).values()))
            for most, days in ((0, friends), (6, min(friends + 3, 40)), (40, 40), (12, 8)):
                yield village, drawn_away(village, most, drawn, 0.3 + 0.1 * place), days

    def test_great_villages(self):
        for village, away, days in self.great_ones():
            plan = plan_away(village, away, days)
            if plan is not None:
                self.assertIs(is_plan(village, plan), True)
                self.assertEqual(list(plan), village.ties())
                self.assertTrue(keeps_away(plan, away))
                self.assertLessEqual(max(plan.values()), days)
            for person in village.people()[::9] + village.people()[-1:]:
                told = crowd(village, away, days, person)
                self.assertIs(told is None, plan is not None)
                if told is not None:
                    self.assertIs(is_crowd(village, away, days, person, told), True)
                    self.assertEqual(told, [one for one in village.friends(person) if one in told])
            least = least_days_away(village, away)
            self.assertIs(least <= days, plan is not None)
            self.assertIsNotNone(plan_away(village, away, least))
            self.assertIsNone(plan_away(village, away, least - 1))

    def test_left_days_of_great_villages(self):
        for village, away, days in list(self.great_ones())[:12:3] + list(self.great_ones())[20:]:
            if max(map(len, helper.friends(village).values())) < 30 or days < 20:
                self.assertEqual(left_days(village, away, days), left_by_flow(village, away, days))
            else:
                left = left_days(village, away, days)
                self.assertEqual(list(left), helper.pairs_of_friends(village))
                for pair in list(left)[::40]:
                    self.assertEqual(left[pair], [day for day in range(1, days + 1) if can_all(
                        [friend for friend in village.friends(pair[1]) if friend != pair[0]],
                        {friend: [x for x in left[pair[1], friend] if x != day] for friend in village.friends(pair[1])})
                        and day not in away.get(pair[0], ()) and day not in away.get(pair[1], ())])

    def test_a_star_whose_friends_have_few_days(self):
        village = helper.star_village(41)
        people = village.people()
        middle = people[40]
        # each friend is away but on two days, in a ring; one day more is nobody's
        away = {person: [day for day in range(1, 41) if day not in (place + 1, (place + 1) % 40 + 1)]
                for place, person in enumerate(people[:40])}
        plan = plan_away(village, away, 40)
        self.assertIn(list(plan.values()), ([*range(1, 41)], [*range(2, 41), 1]))
        self.assertTold(least_days_away(village, away), 40)
        self.assertTold(plan_away(village, {**away, people[0]: [*range(3, 41), 1]}, 40), plan_away(
            village, {**away, people[0]: [1, *range(40, 2, -1)]}, 40))
        self.assertIsNone(plan_away(village, {**away, middle: [7]}, 40))
        self.assertTold(crowd(village, {**away, middle: [7]}, 40, middle), people[:40])
        self.assertTold(crowd(village, {**away, people[3]: list(range(1, 41))}, 40, middle), [people[3]])

    def test_what_is_no_crowd(self):
        for thing in helper.any_objects() + [["b", "b"], ["a"], ["b", "c"], "b", {"b": 1}, [["b"]]]:
            self.assertIs(is_crowd(EXAMPLE, AWAY, 2, "a", thing), False)
        self.assertIs(is_crowd(EXAMPLE, AWAY, 2, "a", ("b",)), True)

    def test_equal_answers_in_any_order(self):
        drawn = random.Random(1011)
        for village in helper.some_villages(12, 5, 1012):
            away = drawn_away(village, 8, drawn)
            about = {person: tuple(reversed(away[person])) for person in reversed(list(away))}
            for person in village.people():
                self.assertTold(crowd(village, about, 5, person), crowd(village, away, 5, person))
            days = least_days_away(village, away)
            self.assertTold(plan_away(village, about, days), plan_away(village, away, days))

    def test_bad_away(self):
        wrong = [thing for thing in helper.any_objects() if thing != {}]
        wrong += [{"e": [1]}, {"a": [0]}, {"a": [1, 1]}, {"a": [True]}, {"a": 1}, {"a": {1: 1}}, {"a": ["1"]}, {"a": [-1]},
                  {"a": None}, {"a": [1], "b": [2, [3]]}, [("a", [1])], {("a",): [1]}, {"a": "1"}, {0: [1]}]
        calls = ((left_days, ("?",)), (plan_away, ("?",)), (crowd, ("?", None)), (is_crowd, ("?", None, None)),
                 (least_days_away, ()))
        for thing in wrong:
            for function, more in calls:
                self.assertRaisesJust(BadAway, {"away": thing}, function, EXAMPLE, thing, *more)
            for function in (first_away, slow_chain):
                self.assertRaisesJust(BadAway, {"away": thing}, function, EXAMPLE, SLATES, thing)
        for thing in helper.any_objects():
            if not isinstance(thing, Village):
                for function, more in calls + ((first_away, (None,)), (slow_chain, (None,))):
                    self.assertRaisesJust(BadVillage, {"thing": thing}, function, thing, None, *more)
            for function in (first_away, slow_chain):
                self.assertRaisesJust(BadSlates, {"slates": thing}, function, EXAMPLE, thing, None)

    def test_bad_days_then_no_person(self):
        for thing in helper.any_objects():
            for function, more in ((left_days, ()), (plan_away, ()), (crowd, (None,)), (is_crowd, (None, None))):
                self.assertRaisesJust(BadDays, {"days": thing}, function, EXAMPLE, AWAY, thing, *more)
            self.assertRaisesJust(NoPerson, {"person": thing}, crowd, EXAMPLE, AWAY, 2, thing)
            self.assertRaisesJust(NoPerson, {"person": thing}, is_crowd, EXAMPLE, AWAY, 2, thing, ["b"])


class AwayBySlates(helper.Told):
    """10.6."""

    def chain_end(self, chain, away):
        day = 0
        for tie in chain:
            day += 1
            while any(day in away.get(person, ()) for person in tie):
                day += 1
        return day

    def right_chain(self, village, slates, away, first):
        chain = slow_chain(village, slates, away)
        if village.ties():
            self.assertIs(is_chain(village, slates, chain), True)
        self.assertEqual(self.chain_end(chain, away), max(first.values(), default=0))
        return chain

    def test_all_plans(self):
        drawn = random.Random(1013)
        for village in helper.villages(4) + helper.some_villages(5, 4, 1014):
            for _ in range(3):
                away = drawn_away(village, 3, drawn)
                found = by_slates(village, [plan for plan in all_plans(village, 7) if keeps_away(plan, away)])
                for slates in helper.all_slates(village):
                    plans = found[repr(slates)]
                    first = {tie: min(plan[tie] for plan in plans) for tie in village.ties()}
                    self.assertTold(first_away(village, slates, away), first)
                    chain = self.right_chain(village, slates, away, first)
                    if chain:
                        self.assertIn(chain, all_chains(village, slates))

    def test_one_person_and_two(self):
        self.assertTold(first_away(ALONE, {"a": []}, {"a": [1]}), {})
        self.assertTold(slow_chain(ALONE, {"a": []}, {"a": [1]}), [])
        two = {"a": ["b"], "b": ["a"]}
        self.assertTold(first_away(TWO, two, {"a": [1, 3], "b": [2, 10 ** 15]}), {("b", "a"): 4})
        self.assertTold(slow_chain(TWO, two, {}), [("b", "a")])

    def test_great_villages(self):
        drawn = random.Random(1015)
        for seed, village in enumerate(helper.great_villages(1016)):
            slates = helper.drawn_slates(village, seed)
            self.assertEqual(max(first_away(village, slates, {}).values()), fewest_days(village, slates))
            away = {person: drawn.sample(range(1, 81), 40) for person in village.people() if person != "a"}
            first = first_away(village, slates, away)
            self.assertTold(slates_of_plan(village, first), slates)
            self.assertTrue(keeps_away(first, away))
            for tie, day in first.items():
                # the day ahead is barred by somebody, or by what comes ahead of it
                ahead = [first[x] for x in village.ties() if set(x) & set(tie) and first[x] < day]
                free = [x for x in range(max(ahead, default=0) + 1, day) if keeps_away({tie: x}, away)]
                self.assertEqual(free, [])
            self.right_chain(village, slates, away, first)

    def test_a_chain_that_begins_late(self):
        # d is away so long that what comes ahead of c and d does not matter
        away = {"d": [1, 2, 3, 4]}
        self.assertTold(first_away(EXAMPLE, SLATES, away), {("a", "b"): 2, ("b", "c"): 1, ("c", "d"): 5})
        self.assertEqual(self.chain_end(slow_chain(EXAMPLE, SLATES, away), away), 5)


class Example(helper.Told):
    """10.7, what it has of days away."""

    def test_example(self):
        left = left_days(EXAMPLE, AWAY, 2)
        self.assertEqual((left["b", "c"], left["a", "b"]), ([], []))
        self.assertTold(crowd(EXAMPLE, AWAY, 2, "a"), ["b"])
        self.assertTold(plan_away(EXAMPLE, AWAY, 2), None)
        self.assertTold(least_days_away(EXAMPLE, AWAY), 3)
