"""Points 10.1 to 10.3 and what 10.7 has of them: plans, first days, chains, last days, tight meetings."""

import itertools

from heardsince.days import (fewest_days, first_days, is_chain, is_plan, last_days, longest_chain, slates_of_plan,
                             tight)
from heardsince.errors import BadDays, BadPlan, BadSlates, BadVillage
from heardsince.villages import Village
from tests import helper

EXAMPLE = helper.example_village()
SLATES = helper.EXAMPLE_SLATES
PLAN = {("a", "b"): 2, ("b", "c"): 1, ("c", "d"): 2}
ALONE = Village(["a"], [], [1])
TWO = Village(["a", "b"], [("b", "a")], [1, 1])
SOME = helper.villages(4) + helper.some_villages(5, 8, 1001) + helper.villages(5)[-1:]


def all_plans(village, days):
    """All plans within so many days, by going through all dicts from ties to days."""
    return [plan for plan in (dict(zip(village.ties(), row))
                              for row in itertools.product(range(1, days + 1), repeat=len(village.ties())))
            if all(plan[x] != plan[y] for x, y in itertools.combinations(plan, 2) if set(x) & set(y))]


def slates_by_days(village, plan):
    return helper.met_rows(village, sorted(plan, key=plan.get))


def by_slates(village, plans):
    """The dict from reprs of slates to the lists of the plans with them."""
    found = {}
    for plan in plans:
        found.setdefault(repr(slates_by_days(village, plan)), []).append(plan)
    return found


def all_chains(village, slates):
    """All chains, of their meetings as the village has them."""
    found, near = [], [[tie] for tie in village.ties()]
    while near:
        found += near
        near = [chain + [tie] for chain in near for tie in village.ties() if behind_by_hand(slates, chain[-1], tie)]
    return found


def behind_by_hand(slates, ahead, behind):
    for person in set(ahead) & set(behind):
        one, other = set(ahead) - {person}, set(behind) - {person}
        if one and other and slates[person].index(one.pop()) < slates[person].index(other.pop()):
            return True
    return False


class Plans(helper.Told):
    """10.1."""

    def test_all_dicts_of_days(self):
        for village in helper.villages(4):
            plans = [repr(plan) for plan in all_plans(village, 3)]
            for row in itertools.product((0, 1, 2, 3), repeat=len(village.ties())):
                plan = dict(zip(village.ties(), row))
                self.assertIs(is_plan(village, plan), repr(plan) in plans)
                self.assertIs(is_plan(village, helper.turned_keys(plan)), repr(plan) in plans)
                if repr(plan) in plans:
                    self.assertTold(slates_of_plan(village, plan), slates_by_days(village, plan))
                    self.assertTold(slates_of_plan(village, helper.turned_keys(plan)), slates_by_days(village, plan))

    def test_what_is_no_plan(self):
        wrong = [thing for thing in helper.any_objects() if thing != {}]
        wrong += [{**PLAN, ("b", "a"): 2}, {("a", "b"): 2, ("b", "a"): 2, ("b", "c"): 1}, {("a", "b"): 2, ("c", "d"): 1},
                  {**PLAN, ("a", "c"): 7}, {**PLAN, ("a", "b"): 0}, {**PLAN, ("a", "b"): True}, {**PLAN, ("a", "b"): "2"},
                  {**PLAN, ("a", "b"): 1}, {**PLAN, ("a", "b"): [2]}, {**PLAN, ("a", "b"): None}, list(PLAN.items()),
                  {("a", "b", "x"): 2, ("b", "c"): 1, ("c", "d"): 2}, {"ab": 2, "bc": 1, "cd": 2},
                  {**PLAN, ("a", "b"): -1}, {1: 1, 2: 2, 3: 3}]
        for thing in wrong + [{}]:
            self.assertIs(is_plan(EXAMPLE, thing), False)
            self.assertRaisesJust(BadPlan, {"plan": thing}, slates_of_plan, EXAMPLE, thing)
        for thing in wrong:
            self.assertIs(is_plan(ALONE, thing), False)
            self.assertRaisesJust(BadPlan, {"plan": thing}, slates_of_plan, ALONE, thing)

    def test_one_person_and_two(self):
        self.assertIs(is_plan(ALONE, {}), True)
        self.assertTold(slates_of_plan(ALONE, {}), {"a": []})
        for day in (1, 10 ** 15):
            self.assertIs(is_plan(TWO, {("a", "b"): day}), True)
            self.assertTold(slates_of_plan(TWO, {("a", "b"): day}), {"a": ["b"], "b": ["a"]})

    def test_great_villages(self):
        for seed, village in enumerate(helper.great_villages(1002)):
            slates = helper.drawn_slates(village, seed)
            days = first_days(village, slates)
            far = {tie: day * 10 ** 13 + 10 ** 15 for tie, day in days.items()}
            self.assertIs(is_plan(village, far), True)
            self.assertTold(slates_of_plan(village, helper.turned_keys(far)), slates)
            person = max(village.people(), key=lambda one: len(slates[one]))
            first, last = [tie for tie in village.ties() if person in tie][:2]
            self.assertIs(is_plan(village, {**far, first: far[last]}), False)

    def test_bad_village(self):
        for thing in helper.any_objects():
            if not isinstance(thing, Village):
                self.assertRaisesJust(BadVillage, {"thing": thing}, is_plan, thing, PLAN)
                self.assertRaisesJust(BadVillage, {"thing": thing}, slates_of_plan, thing, None)


class FirstDaysAndChains(helper.Told):
    """10.2 and 10.3."""

    def test_all_plans(self):
        for village in SOME:
            many = len(village.ties())
            found = by_slates(village, all_plans(village, many + 1))
            for slates in helper.all_slates(village):
                plans = found[repr(slates)]
                first = {tie: min(plan[tie] for plan in plans) for tie in village.ties()}
                self.assertIn(first, plans)
                self.assertTold(first_days(village, slates), first)
                fewest = max(first.values(), default=0)
                self.assertTold(fewest_days(village, helper.as_tuples(slates)), fewest)
                for days in range(many + 2):
                    within = [plan for plan in plans if max(plan.values(), default=0) <= days]
                    last = {tie: max(plan[tie] for plan in within) for tie in village.ties()} if within else None
                    self.assertTold(last_days(village, slates, days), last)
                within = [plan for plan in plans if max(plan.values(), default=0) <= fewest]
                self.assertTold(tight(village, slates), [tie for tie in village.ties()
                                                         if len({plan[tie] for plan in within}) == 1])

    def test_all_chains(self):
        for village in SOME:
            for slates in helper.all_slates(village):
                chains = all_chains(village, slates)
                for length in (1, 2, 3):
                    for row in itertools.product(village.ties(), repeat=length):
                        self.assertIs(is_chain(village, slates, list(row)), list(row) in chains)
                for chain in chains:
                    self.assertIs(is_chain(village, slates, tuple(list(tie)[::-1] for tie in chain)), True)
                most = max(map(len, chains), default=0)
                told = longest_chain(village, slates)
                self.assertEqual(len(told), most)
                self.assertEqual(fewest_days(village, slates), most)
                if most:
                    self.assertIn(told, chains)
                    self.assertTold(tight(village, slates), [tie for tie in village.ties() if any(
                        tie in chain for chain in chains if len(chain) == most)])

    def test_what_is_no_chain(self):
        wrong = helper.any_objects() + [
            [("a", "b"), ("c", "d")], [("a", "b"), ("b", "c")], [("b", "c"), ("b", "c")], [("b", "c"), ("c", "b")],
            [("a", "c")], [("a", "b", "c")], "ab", ["ab"], ("a", "b"), [("a", "b"), None], [("b", "c"), ("c", "d"), "a"],
            {("a", "b"): 1}, [["a", ["b"]]], [("a", "a")], [("a",)]]
        for thing in wrong:
            self.assertIs(is_chain(EXAMPLE, SLATES, thing), False)
        for thing in helper.any_objects():
            self.assertIs(is_chain(ALONE, {"a": []}, thing), False)

    def test_one_person_and_two(self):
        two = {"a": ["b"], "b": ["a"]}
        self.assertTold(first_days(ALONE, {"a": []}), {})
        self.assertTold(fewest_days(ALONE, {"a": []}), 0)
        self.assertTold(longest_chain(ALONE, {"a": []}), [])
        self.assertTold(tight(ALONE, {"a": []}), [])
        for days in (0, 1, 10 ** 15):
            self.assertTold(last_days(ALONE, {"a": []}, days), {})
        self.assertTold(first_days(TWO, two), {("b", "a"): 1})
        self.assertTold(fewest_days(TWO, two), 1)
        self.assertTold(longest_chain(TWO, two), [("b", "a")])
        self.assertTold(tight(TWO, two), [("b", "a")])
        self.assertTold(last_days(TWO, two, 0), None)
        self.assertTold(last_days(TWO, two, 10 ** 15), {("b", "a"): 10 ** 15})

    def test_great_villages(self):
        for seed, village in enumerate(helper.great_villages(1003)):
            slates = helper.drawn_slates(village, seed)
            first = first_days(village, slates)
            fewest = fewest_days(village, slates)
            chain = longest_chain(village, slates)
            self.assertIs(is_plan(village, first), True)
            self.assertTold(slates_of_plan(village, first), slates)
            self.assertEqual(fewest, max(first.values()))
            # a chain of as many meetings as there are days shows that fewer are not enough
            self.assertIs(is_chain(village, slates, chain), True)
            self.assertEqual(len(chain), fewest)
            self.assertTold(last_days(village, slates, fewest - 1), None)
            last = last_days(village, slates, fewest)
            late = last_days(village, slates, 10 ** 15)
            self.assertTold(slates_of_plan(village, late), slates)
            self.assertEqual(late, {tie: day + 10 ** 15 - fewest for tie, day in last.items()})
            self.assertTold(tight(village, slates), [tie for tie in village.ties() if first[tie] == last[tie]])
            for one, other in zip(chain, chain[1:]):
                self.assertIn(one, tight(village, slates))

    def test_a_row_and_a_star(self):
        row, star = helper.row_village(60), helper.star_village(60)
        rising = helper.friends(row)
        self.assertTold(first_days(row, rising), {tie: place + 1 for place, tie in enumerate(row.ties())})
        self.assertTold(longest_chain(row, rising), row.ties())
        self.assertTold(tight(row, rising), row.ties())
        self.assertTold(longest_chain(star, helper.friends(star)), star.ties())
        self.assertTold(last_days(star, helper.friends(star), 60),
                        {tie: place + 2 for place, tie in enumerate(star.ties())})

    def test_bad_days(self):
        for thing in helper.any_objects():
            self.assertRaisesJust(BadDays, {"days": thing}, last_days, EXAMPLE, SLATES, thing)

    def test_errors_in_order(self):
        for thing in helper.any_objects():
            for function, more in ((first_days, ()), (fewest_days, ()), (longest_chain, ()), (tight, ()),
                                   (is_chain, (None,)), (last_days, (None,))):
                if not isinstance(thing, Village):
                    self.assertRaisesJust(BadVillage, {"thing": thing}, function, thing, None, *more)
                self.assertRaisesJust(BadSlates, {"slates": thing}, function, EXAMPLE, thing, *more)


class Example(helper.Told):
    """10.7, what it has of plans with told slates."""

    def test_example(self):
        self.assertTold(first_days(EXAMPLE, SLATES), PLAN)
        self.assertIs(is_chain(EXAMPLE, SLATES, [("b", "c"), ("c", "d")]), True)
        self.assertEqual(len(longest_chain(EXAMPLE, SLATES)), 2)
        self.assertTold(tight(EXAMPLE, SLATES), EXAMPLE.ties())
