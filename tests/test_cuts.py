"""Point 16.3 and what 16.6 has of it: cuts, rumours apart, kept rumours."""

import itertools
import random

from heardsince.cuts import are_apart, fewest_cut, is_cut, kept_rumour, rumours_apart
from heardsince.errors import BadLot, BadSlates, BadVillage
from heardsince.refusals import BadKept
from heardsince.villages import Village
from tests import helper
from tests.plain_rumours import all_cuts, drawn_sides, most_apart, rumours_by_hand, stops, ties_of

EXAMPLE = helper.example_village()
SLATES = helper.EXAMPLE_SLATES
TWO = Village(["a", "b"], [("b", "a")], [1, 1])
BOTH = {"a": ["b"], "b": ["a"]}
SIDES = (["a", "d"], ["b", "c"])
RUMOURS = [["b", "a"], ["c", "b", "a"], ["b", "c", "d"], ["c", "d"]]


def small_cases(seed, count):
    drawn = random.Random(seed)
    small = [village for village in helper.small_villages(seed) if len(village.people()) > 1]
    for village in small + helper.some_villages(7, 3, seed) + helper.some_villages(8, 2, seed):
        for number in range(count):
            slates = helper.drawn_slates(village, seed + number)
            kept = drawn.sample(village.ties(), drawn.choice((0, 0, 1, 2)) % len(village.ties()))
            yield (village, slates) + drawn_sides(village, drawn) + (kept,)


def great_cases(seed):
    drawn = random.Random(seed)
    for place, village in enumerate(helper.great_villages(seed) + helper.some_villages(60, 3, seed)):
        slates = helper.drawn_slates(village, place)
        for many in (0, 3, 20):
            yield (village, slates) + drawn_sides(village, drawn) + (drawn.sample(village.ties(), many),)
        people = village.people()
        yield village, slates, people[::2], people[1::2], []
        yield village, slates, people[::2], people[1::2], [tie[::-1] for tie in village.ties()]


class Cuts(helper.Told):

    def right_ones(self, village, slates, hearers, tellers, kept):
        case = (village, slates, hearers, tellers, kept)
        rumours = rumours_by_hand(village, slates, hearers, tellers)
        held = {frozenset(tie) for tie in kept}
        cut, apart, rumour = fewest_cut(*case), rumours_apart(*case), kept_rumour(*case)
        whole = [way for way in rumours if ties_of(way) <= held]
        self.assertIs(rumour is None, not whole)
        self.assertIs(cut is None, bool(whole))
        self.assertIs(apart is None, bool(whole))
        if whole:
            self.assertIn(rumour, whole)
            self.assertIs(are_apart(*case, [rumour, rumour]), True)
        else:
            self.assertTold(cut, [tie for tie in village.ties() if tie in cut])
            self.assertTrue(stops(cut, rumours))
            self.assertFalse(any(frozenset(tie) in held for tie in cut))
            self.assertTrue(all(way in rumours for way in apart))
            doors = [door for way in apart for door in ties_of(way) if door not in held]
            self.assertEqual(len(set(doors)), len(doors))
            # no cut is less than rumours apart: so the one is as few, the others as many, as can be
            self.assertEqual(len(cut), len(apart))
            self.assertIs(is_cut(*case, cut), True)
            self.assertIs(are_apart(*case, apart), True)
            for tie in cut[:3]:
                self.assertIs(is_cut(*case, [one for one in cut if one != tie]), False)
        return rumours

    def test_small_villages(self):
        for case in small_cases(1611, 6):
            rumours = self.right_ones(*case)
            cut = fewest_cut(*case)
            if cut is not None:
                self.assertEqual(len(cut), min(map(len, all_cuts(case[0], rumours, case[4]))))
                if len(rumours) < 10:
                    self.assertEqual(len(cut), most_apart(rumours, case[4]))

    def test_great_villages(self):
        for case in great_cases(1612):
            self.right_ones(*case)

    def test_news_that_turns_back_makes_no_rumour(self):
        # x meets a, b, c, d in turn: rows of meetings go by way of all, rumours from each to each later one
        village = Village(list("xabcd"), [("x", one) for one in "abcd"], [1] * 5)
        slates = {"x": list("abcd"), "a": ["x"], "b": ["x"], "c": ["x"], "d": ["x"]}
        self.right_ones(village, slates, ["c", "d"], ["a", "b"], [])
        self.assertEqual(len(fewest_cut(village, slates, ["c", "d"], ["a", "b"], [])), 2)
        self.assertTold(fewest_cut(village, slates, ["a"], ["c", "d", "b"], []), [])
        self.assertTold(rumours_apart(village, slates, ["a"], ["c", "d", "b"], []), [])
        self.assertTold(fewest_cut(village, slates, ["c", "d"], ["a"], []), [("x", "a")])
        self.assertTold(fewest_cut(village, slates, ["c", "d"], ["a"], [("a", "x")]), [("x", "c"), ("x", "d")])
        self.assertTold(rumours_apart(village, slates, ["c", "d"], ["a"], [("a", "x")]), [["a", "x", "c"], ["a", "x", "d"]])

    def test_a_shortest_rumour_may_stand_in_the_way(self):
        # if a's news went to c, nobody's could go to e: so a's must, and b's to c
        village = Village(list("acebdf"), [("a", "f"), ("d", "f"), ("f", "b"), ("c", "f"), ("e", "d")], [1] * 6)
        slates = {"a": ["f"], "c": ["f"], "e": ["d"], "b": ["f"], "d": ["f", "e"], "f": ["a", "d", "b", "c"]}
        self.right_ones(village, slates, ["c", "e"], ["b", "a"], [])
        self.assertEqual(sorted(rumours_apart(village, slates, ["c", "e"], ["b", "a"], [])), [["a", "f", "d", "e"], ["b", "f", "c"]])
        for seed, village in enumerate(helper.some_villages(12, 150, 1615)):
            drawn = random.Random(seed)
            self.right_ones(village, helper.drawn_slates(village, seed), *drawn_sides(village, drawn), [])

    def test_all_ways_as_rumours(self):
        for village, slates, hearers, tellers, kept in small_cases(1616, 3):
            rumours = rumours_by_hand(village, slates, hearers, tellers)
            for one, other in itertools.product(village.people(), repeat=2):
                way = helper.way(village, one, other)
                self.assertIs(are_apart(village, slates, hearers, tellers, kept, [way]), way in rumours)
                self.assertIs(are_apart(village, slates, hearers, tellers, kept, [tuple(way[:-1])]), way[:-1] in rumours)
                # not all on the way
                self.assertIs(are_apart(village, slates, hearers, tellers, kept, [way[:1] + way[2:]]),
                              way[:1] + way[2:] in rumours)

    def test_all_cuts_and_all_lots_of_rumours(self):
        for village, slates, hearers, tellers, kept in small_cases(1613, 2):
            rumours = rumours_by_hand(village, slates, hearers, tellers)
            right = [sorted(cut) for cut in all_cuts(village, rumours, kept)]
            for lot in helper.subsets(village.ties())[::1 + len(village.ties()) // 3]:
                self.assertIs(is_cut(village, slates, hearers, tellers, kept, lot), sorted(lot) in right)
                about = tuple(list(tie[::-1]) for tie in lot[::-1])
                self.assertIs(is_cut(village, slates, hearers, tellers, kept, about), sorted(lot) in right)
            held = {frozenset(tie) for tie in kept}
            for lot in itertools.islice(itertools.chain(*[itertools.product(rumours, repeat=many)
                                                          for many in range(4)]), 0, 120, 3):
                doors = [door for way in lot for door in ties_of(way) if door not in held]
                self.assertIs(are_apart(village, slates, hearers, tellers, kept, lot), len(set(doors)) == len(doors))

    def test_equal_answers_in_any_order(self):
        for village, slates, hearers, tellers, kept in small_cases(1614, 2):
            about = [list(tie[::-1]) for tie in kept[::-1]]
            for function in (fewest_cut, rumours_apart, kept_rumour):
                self.assertTold(function(village, slates, tuple(hearers[::-1]), tellers[::-1], about),
                                function(village, slates, hearers, tellers, kept))

    def test_two_people(self):
        self.right_ones(TWO, BOTH, ["a"], ["b"], [])
        self.assertTold(fewest_cut(TWO, BOTH, ["a"], ["b"], []), [("b", "a")])
        self.assertTold(rumours_apart(TWO, BOTH, ["a"], ["b"], ()), [["b", "a"]])
        self.assertTold(kept_rumour(TWO, BOTH, ["a"], ["b"], [("a", "b")]), ["b", "a"])

    def test_what_is_no_cut(self):
        for thing in helper.any_objects() + [[("a", "b")], [("a", "b"), ("b", "c")], [("a", "b"), ("c", "d"), ("b", "a")],
                                             [("a", "b"), ("c", "d"), ("a", "c")], [("a", "b"), ("c", "d"), "bc"]]:
            self.assertIs(is_cut(EXAMPLE, SLATES, *SIDES, [], thing), False)
        for thing in ([("a", "b"), ("c", "d")], (["d", "c"], ["b", "a"]), [("a", "b"), ("b", "c"), ("c", "d")]):
            self.assertIs(is_cut(EXAMPLE, SLATES, *SIDES, [], thing), True)
        # none of them may be kept
        self.assertIs(is_cut(EXAMPLE, SLATES, *SIDES, [("c", "b")], EXAMPLE.ties()), False)
        self.assertIs(is_cut(EXAMPLE, SLATES, ["a"], ["d"], EXAMPLE.ties(), []), True)

    def test_what_is_not_apart(self):
        for thing in helper.any_objects() + [RUMOURS, [["b", "a"], ["b", "a"]], [["a", "b"]], [["b", "c"]], [["b"]],
                                             [["b", "a", "b", "a"]], [["b", "d"]], [["d", "c", "b"]], ["ba"], [["e", "a"]],
                                             [[["b"], "a"]], [["b", "a"], None], [{"b": 1, "a": 2}]]:
            if thing not in ([], ()):
                self.assertIs(are_apart(EXAMPLE, SLATES, *SIDES, [], thing), False, thing)
        for thing in ([], (), [["b", "a"]], (("b", "a"), ("c", "d")), [["b", "a"], ["b", "c", "d"]], [["c", "b", "a"]]):
            self.assertIs(are_apart(EXAMPLE, SLATES, *SIDES, [], thing), True, thing)
        self.assertIs(are_apart(EXAMPLE, SLATES, *SIDES, [("b", "a")], [["c", "b", "a"], ["b", "a"], ["b", "a"]]), True)
        self.assertIs(are_apart(EXAMPLE, SLATES, *SIDES, [("b", "c")], [["c", "b", "a"], ["b", "a"]]), False)


class Errors(helper.Told):

    calls = ((fewest_cut, ()), (rumours_apart, ()), (kept_rumour, ()), (is_cut, (None,)), (are_apart, (None,)))

    def test_bad_lot(self):
        wrong = [(thing, 0) for thing in helper.any_objects() if not (isinstance(thing, list) and thing[:1] == ["a"])]
        wrong += [(["a", "a"], 1), (("a", "b", "a"), 2), (["a", "e"], 1), (["a", ["b"]], 1), ("a", 0)]
        for function, more in self.calls:
            for thing, index in wrong:
                self.assertRaisesJust(BadLot, {"index": index}, function, EXAMPLE, SLATES, thing, None, None, *more)
                self.assertRaisesJust(BadLot, {"index": index}, function, EXAMPLE, SLATES, ["c"], thing, None, *more)
            for tellers, index in ((["c"], 0), (["a", "c", "b"], 1), (["a", "a", "c"], 1), (("b", "a", "d"), 2)):
                self.assertRaisesJust(BadLot, {"index": index}, function, EXAMPLE, SLATES, ["d", "c"], tellers, None, *more)

    def test_bad_kept(self):
        wrong = [(thing, 0) for thing in helper.any_objects() if thing not in ([], ())]
        wrong += [([("a", "b"), ("b", "a")], 1), ([("a", "c")], 0), ([("a", "b"), ("c", "b"), "cd"], 2), ("ab", 0)]
        for function, more in self.calls:
            for thing, index in wrong:
                self.assertRaisesJust(BadKept, {"index": index}, function, EXAMPLE, SLATES, ["a"], ["b"], thing, *more)

    def test_errors_in_order(self):
        for function, more in self.calls:
            for thing in helper.any_objects():
                if not isinstance(thing, Village):
                    self.assertRaisesJust(BadVillage, {"thing": thing}, function, thing, None, None, None, None, *more)
                self.assertRaisesJust(BadSlates, {"slates": thing}, function, EXAMPLE, thing, None, None, None, *more)


class Example(helper.Told):
    """16.6, what it has of cuts."""

    def test_example(self):
        self.assertEqual(sorted(rumours_by_hand(EXAMPLE, SLATES, *SIDES)), sorted(RUMOURS))
        self.assertTold(fewest_cut(EXAMPLE, SLATES, *SIDES, []), [("a", "b"), ("c", "d")])
        self.assertIs(are_apart(EXAMPLE, SLATES, *SIDES, [], [["b", "a"], ["c", "d"]]), True)
        self.assertEqual(len(rumours_apart(EXAMPLE, SLATES, *SIDES, [])), 2)
        self.assertTold(kept_rumour(EXAMPLE, SLATES, *SIDES, [("b", "a")]), ["b", "a"])
        self.assertTold(fewest_cut(EXAMPLE, SLATES, *SIDES, [("b", "a")]), None)
        self.assertTold(rumours_apart(EXAMPLE, SLATES, *SIDES, [("b", "a")]), None)
