"""Points 15.1 to 15.3 and what 15.8 has of them: views, slates of a view, chances by a view, two ways."""

import itertools
import math
import random

from heardsince.calendars import is_slates
from heardsince.errors import BadSlates, BadVillage, NoPerson
from heardsince.refusals import BadView
from heardsince.tellings import lots_at
from heardsince.views import count_of_view, count_views, is_view, seen_chance, slates_of_view, two_ways, view
from heardsince.villages import Village
from tests import helper

EXAMPLE = helper.example_village()
SLATES = helper.EXAMPLE_SLATES
# a knows that b told of b and c, so that b met c ahead
SEEN = [("b", ["b", "c"])]
ALONE = Village(["a"], [], [1])
TWO = Village(["a", "b"], [("b", "a")], [1, 1])
STAR = Village(["x", "a", "b", "c"], [("x", "a"), ("b", "x"), ("x", "c")], [1, 2, 3, 4])
STAR_SLATES = {"x": ["a", "b", "c"], "a": ["x"], "b": ["x"], "c": ["x"]}


def views_by_hand(village, person):
    """The dict from the reprs of all views of a person to the pairs of the view and the list of its slates."""
    found = {}
    for slates in helper.all_slates(village):
        seen = helper.view_by_hand(village, slates, person)
        found.setdefault(repr(seen), (seen, []))[1].append(slates)
    return found


def candidates(village, person):
    """All lists of pairs of the person's friends, in each order, and any people."""
    near = helper.friends(village)[person]
    lots = helper.subsets(village.people())
    return [list(zip(row, told)) for row in itertools.permutations(near)
            for told in itertools.product(lots, repeat=len(near))]


class Views(helper.Told):
    """15.1."""

    def test_all_slates(self):
        for village in helper.small_villages(1501):
            for slates in helper.all_slates(village)[::1 + len(village.people()) // 6]:
                for person in village.people():
                    seen = helper.view_by_hand(village, slates, person)
                    self.assertTold(view(village, helper.as_tuples(slates), person), seen)
                    self.assertIs(is_view(village, person, seen), True)
                    self.assertIs(is_view(village, person, helper.as_tuples(seen)), True)
                    self.assertIs(is_view(village, person, [[friend, told[::-1]] for friend, told in seen]), True)

    def test_all_candidates(self):
        for village in helper.villages(4)[:14] + helper.villages(4)[-6:]:
            for person in village.people():
                right = views_by_hand(village, person)
                for thing in candidates(village, person)[::1 + 2 * (len(village.people()) > 3)]:
                    self.assertIs(is_view(village, person, thing), repr(thing) in right, thing)

    def test_counts(self):
        for village in helper.villages(4) + helper.villages(5)[-40::4] + helper.some_villages(6, 3, 1502):
            for person in village.people():
                self.assertTold(count_views(village, person), len(views_by_hand(village, person)))

    def test_great_villages(self):
        for seed, village in enumerate(helper.great_villages(1503)):
            slates = helper.drawn_slates(village, seed)
            for person in village.people()[::13] + village.people()[-1:]:
                seen = helper.view_by_hand(village, slates, person)
                self.assertTold(view(village, slates, person), seen)
                self.assertIs(is_view(village, person, seen), True)
                near = helper.friends(village)[person]
                lots = math.prod(lots_at(village, friend, person) for friend in near)
                self.assertTold(count_views(village, person), math.factorial(len(near)) * lots)

    def test_what_is_no_view(self):
        for thing in helper.any_objects() + [
                [("b", ["b"]), ("b", ["b"])], [("b", ["c"])], [("b", ["b", "d"])], [("b", ["b", "b"])], [("c", ["c"])],
                [("b", ["a", "b"])], [("b", "b")], [("b", ["b"], 1)], [("b",)], ["b", ["b"]], {"b": ["b"]},
                [("b", {"b": 1})], [(["b"], ["b"])], [("b", ["b", "e"])], [("b", ["b", ["c"]])], [("b", [])]]:
            self.assertIs(is_view(EXAMPLE, "a", thing), False, thing)
        self.assertIs(is_view(EXAMPLE, "b", [("c", ["c"]), ("a", ["a"])]), True)
        self.assertIs(is_view(EXAMPLE, "b", [("c", ["c"])]), False)
        self.assertIs(is_view(EXAMPLE, "b", [("c", ["c"]), ("a", ["a", "c"])]), False)

    def test_one_person_and_two(self):
        self.assertTold(view(ALONE, {"a": []}, "a"), [])
        self.assertIs(is_view(ALONE, "a", []), True)
        self.assertIs(is_view(ALONE, "a", ()), True)
        self.assertTold(count_views(ALONE, "a"), 1)
        self.assertTold(view(TWO, {"a": ["b"], "b": ["a"]}, "b"), [("a", ["a"])])
        self.assertTold(count_views(TWO, "b"), 1)


class SlatesOfAView(helper.Told):
    """15.2."""

    def right_slates(self, village, person, seen, told):
        self.assertIs(is_slates(village, told), True)
        self.assertEqual(list(told), village.people())
        self.assertTold(helper.view_by_hand(village, told, person), seen)

    def test_all_views(self):
        for village in helper.small_villages(1504):
            for person in village.people():
                for seen, slates in views_by_hand(village, person).values():
                    told = slates_of_view(village, person, seen)
                    self.right_slates(village, person, seen, told)
                    about = [[friend, tuple(people[::-1])] for friend, people in seen]
                    self.assertTold(slates_of_view(village, person, about), told)
                    self.assertTold(count_of_view(village, person, seen), len(slates))
                    self.assertTold(count_of_view(village, person, about), len(slates))

    def test_great_villages(self):
        for seed, village in enumerate(helper.great_villages(1505)):
            near = helper.friends(village)
            for person in village.people()[::19] + village.people()[-1:]:
                seen = helper.view_by_hand(village, helper.drawn_slates(village, seed), person)
                self.right_slates(village, person, seen, slates_of_view(village, person, seen))
                among = {one for friend, people in seen for one in people}
                many = 1
                for one in set(village.people()) - {person}:
                    further = [friend for friend in near[one] if friend != helper.way(village, one, person)[1]]
                    inside = len(among & set(further))
                    many *= (math.factorial(inside) * math.factorial(len(further) - inside) if one in among
                             else math.factorial(len(near[one])))
                self.assertTold(count_of_view(village, person, seen), many)


class Chances(helper.Told):
    """15.3."""

    def right_ones(self, village, person, seen, one, other, part):
        self.assertTold(seen_chance(village, person, seen, one, other), part)
        pair = two_ways(village, person, seen, one, other)
        self.assertIs(pair is None, part in ((0, 1), (1, 1)))
        if pair is not None:
            self.assertIs(type(pair), tuple)
            self.assertEqual(len(pair), 2)
            row = helper.way(village, other, one)
            for slates, heard in zip(pair, (True, False)):
                self.assertIs(is_slates(village, slates), True)
                self.assertTold(helper.view_by_hand(village, slates, person), seen)
                self.assertIs(helper.rises(slates, row), heard)

    def test_all_views(self):
        for village in helper.villages(4) + helper.villages(5)[-40::10]:
            for person in village.people():
                for seen, slates in views_by_hand(village, person).values():
                    for one, other in itertools.product(village.people(), repeat=2):
                        row = helper.way(village, other, one)
                        self.right_ones(village, person, seen, one, other,
                                        helper.part_of(lambda these: helper.rises(these, row), slates))

    def test_great_villages(self):
        drawn = random.Random(1506)
        for seed, village in enumerate(helper.great_villages(1507)):
            slates = helper.drawn_slates(village, seed)
            for person in village.people()[::27] + village.people()[-1:]:
                seen = helper.view_by_hand(village, slates, person)
                for one, other in [drawn.choices(village.people(), k=2) for _ in range(30)]:
                    part = seen_chance(village, person, seen, one, other)
                    row = helper.way(village, other, one)
                    # what is so may never have the chance 0, what is not so never 1
                    self.assertNotEqual(part, (0, 1) if helper.rises(slates, row) else (1, 1))
                    self.right_ones(village, person, seen, one, other, part)
                    self.assertEqual(bin(part[1]).count("1"), 1)

    def test_far_people_of_a_row(self):
        village = helper.row_village(60)
        first, last = village.people()[0], village.people()[59]
        seen = [(village.people()[1], village.people()[1:2])]
        self.assertTold(seen_chance(village, first, seen, last, first), (1, 2 ** 57))
        self.assertTold(seen_chance(village, first, seen, first, last), (0, 1))

    def test_one_person_and_two(self):
        self.assertTold(seen_chance(ALONE, "a", [], "a", "a"), (1, 1))
        self.assertTold(two_ways(ALONE, "a", [], "a", "a"), None)
        self.assertTold(slates_of_view(ALONE, "a", ()), {"a": []})
        self.assertTold(count_of_view(ALONE, "a", ()), 1)
        self.assertTold(seen_chance(TWO, "a", [("b", ["b"])], "b", "a"), (1, 1))
        self.assertTold(slates_of_view(TWO, "a", [("b", ["b"])]), {"a": ["b"], "b": ["a"]})

    def test_slates_of_two_ways_have_no_list_in_common(self):
        one, other = two_ways(STAR, "a", [("x", ["x"])], "c", "b")
        one["a"].append("more")
        one["x"].append("more")
        self.assertTold((other["a"], len(other["x"])), (["x"], 3))


class Errors(helper.Told):

    def test_bad_view(self):
        calls = ((slates_of_view, ()), (count_of_view, ()), (seen_chance, (None, None)), (two_ways, (None, None)))
        for function, more in calls:
            for thing in helper.any_objects() + [[("b", ["b", "d"])], [("c", ["c"])]]:
                self.assertRaisesJust(BadView, {"view": thing}, function, EXAMPLE, "a", thing, *more)
                self.assertRaisesJust(NoPerson, {"person": thing}, function, EXAMPLE, thing, None, *more)
            self.assertRaisesJust(NoPerson, {"person": None}, function, EXAMPLE, None, SEEN, *more)

    def test_no_person(self):
        for function in (seen_chance, two_ways):
            for thing in helper.any_objects() + ["e"]:
                self.assertRaisesJust(NoPerson, {"person": thing}, function, EXAMPLE, "a", SEEN, thing, "?")
                self.assertRaisesJust(NoPerson, {"person": thing}, function, EXAMPLE, "a", SEEN, "a", thing)

    def test_errors_in_order(self):
        for thing in helper.any_objects():
            if not isinstance(thing, Village):
                self.assertRaisesJust(BadVillage, {"thing": thing}, view, thing, None, None)
                self.assertRaisesJust(BadVillage, {"thing": thing}, is_view, thing, None, None)
                self.assertRaisesJust(BadVillage, {"thing": thing}, count_views, thing, None)
            self.assertRaisesJust(BadSlates, {"slates": thing}, view, EXAMPLE, thing, None)
            self.assertRaisesJust(NoPerson, {"person": thing}, view, EXAMPLE, SLATES, thing)
            self.assertRaisesJust(NoPerson, {"person": thing}, is_view, EXAMPLE, thing, None)
            self.assertRaisesJust(NoPerson, {"person": thing}, count_views, EXAMPLE, thing)


class Example(helper.Told):
    """15.8, what it has of views."""

    def test_example(self):
        seen = [("x", ["x"])]
        self.assertTold(view(STAR, STAR_SLATES, "a"), seen)
        self.assertTold(count_of_view(STAR, "a", seen), 2)
        self.assertTold(seen_chance(STAR, "a", seen, "c", "b"), (1, 2))
        self.assertTold(seen_chance(STAR, "a", seen, "b", "a"), (1, 1))
