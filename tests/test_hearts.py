"""Point 12.4 and what 12.6 has of it: only some have to hear of some."""

import itertools
import random

from heardsince.errors import BadLot, BadRounds, BadVillage
from heardsince.hearts import heart, heart_way, is_heart_way, least_rounds_for, slates_for
from heardsince.villages import Village
from tests import helper
from tests.test_fewrounds import are_slates
from tests.test_rounds import falls_by_words

EXAMPLE = helper.example_village()
ALONE = Village(["a"], [], [7])
TWO = Village(["a", "b"], [("b", "a")], [2, 3])


def heart_by_words(village, hearers, tellers):
    """The ties both of whose sides have a hearer and a teller."""
    found = []
    for one, other in village.ties():
        side = [person for person in village.people() if one in helper.way(village, person, other)]
        beyond = [person for person in village.people() if person not in side]
        if all(set(part) & set(lot) for part in (side, beyond) for lot in (hearers, tellers)):
            found.append((one, other))
    return found


def rounds_by_hand(village, slates, hearers, tellers):
    return max([falls_by_words(village, slates, one, other) + 1
                for one in hearers for other in tellers if one != other], default=0)


def longest_in(village, ties):
    """The doors of the longest way all of whose doors are among some ties."""
    inner = set(ties) | {tie[::-1] for tie in ties}
    ways = [helper.way(village, one, other) for one, other in itertools.product(village.people(), repeat=2)]
    return max(len(way) - 1 for way in ways if set(zip(way, way[1:])) <= inner)


class SomeOfSome(helper.Told):

    def right_ones(self, village, hearers, tellers, rounds, least):
        slates = slates_for(village, hearers, tellers, rounds)
        way = heart_way(village, hearers, tellers, rounds)
        self.assertIs(slates is None, rounds < least)
        self.assertIs(way is None, rounds >= least)
        if slates is not None:
            self.assertTrue(are_slates(village, slates))
            self.assertLessEqual(rounds_by_hand(village, slates, hearers, tellers), rounds)
        else:
            self.assertTold(way, helper.way(village, way[0], way[-1]))
            inner = heart_by_words(village, hearers, tellers)
            self.assertTrue(all(door in inner or door[::-1] in inner for door in zip(way, way[1:])))
            self.assertGreaterEqual(len(way) - 1, 2 * rounds)
            self.assertIs(is_heart_way(village, hearers, tellers, rounds, way), True)
            self.assertIs(is_heart_way(village, tellers, hearers, rounds, tuple(way[::-1])), True)

    def lots(self, village, drawn, count):
        every = [some for some in helper.subsets(village.people()) if some]
        return [(drawn.choice(every), drawn.choice(every)[::-1]) for _ in range(count)]

    def test_all_slates(self):
        drawn = random.Random(1212)
        for village in helper.villages(4) + helper.villages(5)[::9] + helper.some_villages(6, 4, 1213):
            every = [some for some in helper.subsets(village.people()) if some]
            lots = list(itertools.product(every, every)) if len(every) < 8 else self.lots(village, drawn, 40)
            for hearers, tellers in lots:
                least = min(rounds_by_hand(village, slates, hearers, tellers) for slates in helper.all_slates(village))
                inner = heart_by_words(village, hearers, tellers)
                self.assertTold(heart(village, hearers, tellers), inner)
                self.assertTold(least_rounds_for(village, hearers, tellers), least)
                if hearers != tellers or len(hearers) > 1:
                    self.assertEqual(least, 1 + longest_in(village, inner) // 2)
                for rounds in range(1, 4):
                    self.right_ones(village, hearers, tellers, rounds, least)

    def test_all_ways(self):
        drawn = random.Random(1214)
        for village in helper.some_villages(6, 4, 1215):
            for hearers, tellers in self.lots(village, drawn, 12):
                inner = heart_by_words(village, hearers, tellers)
                for one, other in itertools.product(village.people(), repeat=2):
                    way = helper.way(village, one, other)
                    in_heart = all(door in inner or door[::-1] in inner for door in zip(way, way[1:]))
                    for rounds in (1, 2):
                        self.assertIs(is_heart_way(village, hearers, tellers, rounds, way),
                                      in_heart and len(way) - 1 >= 2 * rounds)

    def test_great_villages(self):
        drawn = random.Random(1216)
        for village in helper.great_villages(1217) + helper.some_villages(60, 4, 1218):
            for few, more in ((1, 1), (1, 60), (2, 3), (5, 10), (30, 30), (60, 60)):
                hearers, tellers = drawn.sample(village.people(), few), drawn.sample(village.people(), more)
                inner = heart_by_words(village, hearers, tellers)
                self.assertTold(heart(village, hearers, tellers), inner)
                least = 0 if hearers == tellers and few == 1 else 1 + longest_in(village, inner) // 2
                self.assertTold(least_rounds_for(village, hearers, tellers), least)
                for rounds in {1, max(1, least - 1), max(1, least), 10 ** 9}:
                    self.right_ones(village, hearers, tellers, rounds, least)

    def test_one_person_and_two(self):
        self.assertTold(heart(ALONE, ["a"], ["a"]), [])
        self.assertTold(least_rounds_for(ALONE, ["a"], ("a",)), 0)
        self.right_ones(ALONE, ["a"], ["a"], 1, 0)
        for hearers, tellers in itertools.product((["a"], ["b"], ["a", "b"], ("b", "a")), repeat=2):
            alone = len(hearers) == len(tellers) == 1 and hearers == tellers
            self.assertTold(heart(TWO, hearers, tellers), [("b", "a")] if len(hearers) == len(tellers) == 2 else [])
            self.assertTold(least_rounds_for(TWO, hearers, tellers), 0 if alone else 1)
            self.right_ones(TWO, list(hearers), list(tellers), 1, 1)

    def test_equal_answers_in_any_order(self):
        for village in helper.some_villages(12, 6, 1219):
            hearers, tellers = village.people()[:7], village.people()[3:]
            for rounds in (1, 2, 3, 4):
                for function in (slates_for, heart_way):
                    self.assertTold(function(village, tuple(hearers[::-1]), tellers[::-1], rounds),
                                    function(village, hearers, tellers, rounds))

    def test_bad_lot(self):
        calls = ((heart, ()), (slates_for, (None,)), (heart_way, (None,)), (is_heart_way, (None, None)),
                 (least_rounds_for, ()))
        wrong = [(thing, 0) for thing in helper.any_objects() if not (isinstance(thing, list) and thing[:1] == ["a"])]
        wrong += [(["a", "a"], 1), (("a", "b", "a"), 2), (["a", "e"], 1), (["a", ["b"]], 1), ("a", 0), (["a", None, "a"], 1)]
        for function, more in calls:
            for thing, index in wrong:
                self.assertRaisesJust(BadLot, {"index": index}, function, EXAMPLE, thing, None, *more)
                self.assertRaisesJust(BadLot, {"index": index}, function, EXAMPLE, ["a"], thing, *more)
            for thing in helper.any_objects():
                if not isinstance(thing, Village):
                    self.assertRaisesJust(BadVillage, {"thing": thing}, function, thing, None, None, *more)

    def test_bad_rounds(self):
        for function, more in ((slates_for, ()), (heart_way, ()), (is_heart_way, (None,))):
            for thing in helper.any_objects() + [0]:
                self.assertRaisesJust(BadRounds, {"rounds": thing}, function, EXAMPLE, ["a"], ["a"], thing, *more)

    def test_what_is_no_heart_way(self):
        everybody = EXAMPLE.people()
        for thing in helper.any_objects() + [["a", "b"], ["a", "b", "a"], ["a", "c", "d"], "abc", ["a", "b", ["c"]]]:
            self.assertIs(is_heart_way(EXAMPLE, everybody, everybody, 1, thing), False)
        self.assertIs(is_heart_way(EXAMPLE, everybody, everybody, 1, ["b", "c", "d"]), True)
        self.assertIs(is_heart_way(EXAMPLE, ["a", "c"], ["a", "c"], 1, ["b", "c", "d"]), False)
        self.assertIs(is_heart_way(EXAMPLE, ["a", "c"], ["a", "c"], 1, ["a", "b", "c"]), True)

    def test_example(self):
        self.assertTold(heart(EXAMPLE, ["a", "c"], ["b", "d"]), [("b", "c")])
        self.assertTold(least_rounds_for(EXAMPLE, ["a", "c"], ["b", "d"]), 1)
        slates = slates_for(EXAMPLE, ["a", "c"], ["b", "d"], 1)
        self.assertTold(slates, {"a": ["b"], "b": ["c", "a"], "c": ["d", "b"], "d": ["c"]})
