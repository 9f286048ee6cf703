"""Point 9.6 and what 9.7 has of it: meetings put elsewhere, and those that can stay."""

import itertools
import random

from heardsince.errors import BadCosts, BadSlates, BadVillage
from heardsince.movedmeetings import fewest_moved, kept_meetings
from heardsince.villages import Village
from tests import helper

EXAMPLE = helper.example_village()
SLATES = helper.EXAMPLE_SLATES
ABOUT = {"a": ["b"], "b": ["a", "c"], "c": ["d", "b"], "d": ["c"]}
ALONE = Village(["a"], [], [1])
TWO = Village(["a", "b"], [("b", "a")], [1, 1])


def without(slates, moved):
    """What is left of slates if the friends of some meetings are taken out of one another's."""
    gone = {(one, other) for one, other in moved} | {(other, one) for one, other in moved}
    return {person: [friend for friend in slates[person] if (person, friend) not in gone] for person in slates}


def cheapest_by_hand(village, one, other, prices):
    """The least price, by going through all lots of meetings that are put elsewhere."""
    cost = dict(zip(village.ties(), prices))
    return min(sum(cost[tie] for tie in moved) for moved in helper.subsets(village.ties())
               if without(one, moved) == without(other, moved))


def most_by_lots(village, one, other, prices):
    """The greatest price of what stays, from the rims inward, by all lots of friends of each person."""
    cost = {frozenset(tie): price for tie, price in zip(village.ties(), prices)}
    near = helper.friends(village)
    worth = {}
    order = sorted(village.people(), key=lambda person: -len(helper.way(village, person, village.people()[0])))
    for person in order:
        inward = (helper.way(village, person, village.people()[0]) + [None])[1]
        behind = [friend for friend in near[person] if friend != inward]
        for stays in (False, True):
            best = None
            for lot in helper.subsets(behind):
                with_all = lot + [inward] if stays and inward else lot
                if [x for x in one[person] if x in with_all] == [x for x in other[person] if x in with_all]:
                    total = sum(worth[friend, friend in lot] + (cost[frozenset((person, friend))] if friend in lot else 0)
                                for friend in behind)
                    best = total if best is None else max(best, total)
            worth[person, stays] = best
    return worth[village.people()[0], False]


class PutElsewhere(helper.Told):

    def right_kept(self, village, one, other, prices, least):
        kept = kept_meetings(village, one, other, prices)
        self.assertTold(kept, [tie for tie in village.ties() if tie in kept])
        moved = [tie for tie in village.ties() if tie not in kept]
        self.assertEqual(without(one, moved), without(other, moved))
        self.assertEqual(sum(price for tie, price in zip(village.ties(), prices) if tie in moved), least)
        self.assertTold(fewest_moved(village, one, other, prices), least)

    def test_all_pairs_of_slates(self):
        for village in helper.villages(4) + helper.villages(5)[30::25]:
            for place, (one, other) in enumerate(itertools.product(helper.all_slates(village), repeat=2)):
                for prices in ([1, 1, 1, 1], [3, 1, 0, 2], [0, 5, 5, 9]):
                    prices = prices[place % 2:][:len(village.ties())] or []
                    if len(prices) == len(village.ties()):
                        self.right_kept(village, one, other, prices, cheapest_by_hand(village, one, other, prices))

    def test_drawn_ones_of_seven(self):
        drawn = random.Random(910)
        for village in [helper.star_village(7)] + helper.some_villages(7, 12, 911):
            for seed in range(6):
                one, other = helper.drawn_slates(village, seed), helper.drawn_slates(village, seed + 50)
                prices = [drawn.randint(0, 6) for _ in village.ties()]
                self.right_kept(village, one, other, prices, cheapest_by_hand(village, one, other, prices))

    def test_sixty_people(self):
        drawn = random.Random(912)
        for village in [helper.row_village(60)] + helper.some_villages(60, 6, 913):
            one, other = helper.drawn_slates(village, 914), helper.drawn_slates(village, 915)
            for most in (1, 3, 10 ** 15):
                prices = [drawn.randint(0, most) for _ in village.ties()]
                best = most_by_lots(village, one, other, prices)
                self.right_kept(village, one, other, prices, sum(prices) - best)

    def test_a_star_of_sixty(self):
        village = helper.star_village(60)
        middle = village.people()[59]
        one = helper.friends(village)
        others = village.people()[:59]
        blocks = others[40:] + others[20:40] + others[:20]
        self.right_kept(village, one, {**one, middle: blocks}, [1] * 59, 39)
        self.right_kept(village, one, {**one, middle: blocks}, [2] * 20 + [1] * 39, 39)
        self.right_kept(village, one, {**one, middle: blocks}, [1] * 20 + [5] * 20 + [1] * 19, 39)
        self.right_kept(village, one, {**one, middle: others[::-1]}, [1] * 59, 58)
        self.assertTold(kept_meetings(village, one, {**one, middle: others[::-1]}, [1] * 31 + [2] + [1] * 27),
                        [village.ties()[31]])
        self.assertTold(fewest_moved(village, one, one, [10 ** 15] * 59), 0)

    def test_one_person_and_two(self):
        self.assertTold(fewest_moved(ALONE, {"a": []}, {"a": ()}, []), 0)
        self.assertTold(kept_meetings(ALONE, {"a": []}, {"a": ()}, ()), [])
        two = {"a": ["b"], "b": ["a"]}
        self.assertTold(fewest_moved(TWO, two, two, [3]), 0)
        self.assertTold(kept_meetings(TWO, two, two, [3]), [("b", "a")])

    def test_bad_costs(self):
        for function in (fewest_moved, kept_meetings):
            for thing in helper.any_objects():
                self.assertRaisesJust(BadCosts, {"index": 0}, function, EXAMPLE, SLATES, ABOUT, thing)
                self.assertRaisesJust(BadCosts, {"index": 1}, function, EXAMPLE, SLATES, ABOUT, [0, thing])
                self.assertRaisesJust(BadCosts, {"index": 3}, function, EXAMPLE, SLATES, ABOUT, [0, 0, 0, thing])
            for prices, index in (([1], 1), ((1, 2), 2), ([1, 2, 3, 4], 3), ([1, -1], 1), ([1, True, 2], 1)):
                self.assertRaisesJust(BadCosts, {"index": index}, function, EXAMPLE, SLATES, ABOUT, prices)
            self.assertRaisesJust(BadCosts, {"index": 0}, function, ALONE, {"a": []}, {"a": []}, [0])

    def test_errors_in_order(self):
        for function in (fewest_moved, kept_meetings):
            for thing in helper.any_objects():
                if not isinstance(thing, Village):
                    self.assertRaisesJust(BadVillage, {"thing": thing}, function, thing, None, None, None)
                self.assertRaisesJust(BadSlates, {"slates": thing}, function, EXAMPLE, thing, None, None)
                self.assertRaisesJust(BadSlates, {"slates": thing}, function, EXAMPLE, SLATES, thing, None)

    def test_example(self):
        self.assertTold(fewest_moved(EXAMPLE, SLATES, ABOUT, [1, 1, 1]), 1)
        self.assertTold(kept_meetings(EXAMPLE, SLATES, ABOUT, [1, 1, 1]), [("a", "b"), ("c", "d")])
        self.assertTold(fewest_moved(EXAMPLE, SLATES, ABOUT, [1, 5, 1]), 2)
        self.assertTold(kept_meetings(EXAMPLE, SLATES, ABOUT, [1, 5, 1]), [("b", "c")])
