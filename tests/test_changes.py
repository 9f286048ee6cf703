"""Points 9.4, 9.5 and what 9.7 has of them: what an exchange changes, what it gains, slates climbed."""

from heardsince.changes import best_exchange, changed_by, climbed, gain, heard_in_all
from heardsince.errors import BadPlace, BadSlates, BadVillage, NoPerson
from heardsince.villages import Village
from tests import helper

EXAMPLE = helper.example_village()
SLATES = helper.EXAMPLE_SLATES
ALONE = Village(["a"], [], [7])
TWO = Village(["a", "b"], [("b", "a")], [2, 3])


def behind(slates, person, place):
    return {**slates, person: helper.exchanges_of(list(slates[person]))[place]}


def all_exchanges(village, slates):
    return [(person, place) for person in village.people() for place in range(len(slates[person]) - 1)]


def best_by_hand(village, slates):
    """The first exchange that gains most, by the numbers behind each."""
    now = sum(helper.numbers_by_hand(village, slates).values())
    gains = {pair: sum(helper.numbers_by_hand(village, behind(slates, *pair)).values()) - now
             for pair in all_exchanges(village, slates)}
    best = max(gains, key=gains.get, default=None)
    return best if best is not None and gains[best] > 0 else None


class WhatAnExchangeChanges(helper.Told):
    """9.4."""

    def right_change(self, village, slates, pair):
        ahead = helper.table_by_hand(village, slates)
        now = helper.table_by_hand(village, behind(slates, *pair))
        lost = [(one, other) for one in ahead for other in ahead[one] if other not in now[one]]
        won = [(one, other) for one in now for other in now[one] if other not in ahead[one]]
        self.assertTold(changed_by(village, slates, *pair), (lost, won))
        self.assertTrue(lost and won)

    def test_all_slates(self):
        for village in helper.villages(4) + helper.villages(5)[-60::3] + helper.some_villages(6, 4, 905):
            for slates in helper.all_slates(village)[::1 + len(village.people()) // 6]:
                for pair in all_exchanges(village, slates):
                    self.right_change(village, slates, pair)

    def test_sixty_people(self):
        for seed, village in enumerate(helper.great_villages(906)):
            slates = helper.drawn_slates(village, seed)
            for pair in all_exchanges(village, slates)[seed::15]:
                self.right_change(village, slates, pair)

    def test_bad_place(self):
        for function in (changed_by, gain):
            for thing in helper.any_objects() + [1, 2, 10 ** 30]:
                self.assertRaisesJust(BadPlace, {"place": thing}, function, EXAMPLE, SLATES, "b", thing)
            for place in (0, 1):
                self.assertRaisesJust(BadPlace, {"place": place}, function, EXAMPLE, SLATES, "a", place)
                self.assertRaisesJust(BadPlace, {"place": place}, function, ALONE, {"a": []}, "a", place)
                self.assertRaisesJust(BadPlace, {"place": place}, function, TWO, {"a": ["b"], "b": ["a"]}, "b", place)

    def test_errors_in_order(self):
        for thing in helper.any_objects():
            for function, more in ((changed_by, (None, None)), (gain, (None, None)), (heard_in_all, ()),
                                   (best_exchange, ()), (climbed, ())):
                if not isinstance(thing, Village):
                    self.assertRaisesJust(BadVillage, {"thing": thing}, function, thing, None, *more)
                self.assertRaisesJust(BadSlates, {"slates": thing}, function, EXAMPLE, thing, *more)
                if more:
                    self.assertRaisesJust(NoPerson, {"person": thing}, function, EXAMPLE, SLATES, thing, None)


class MoreInAll(helper.Told):
    """9.5."""

    def test_all_slates(self):
        for village in helper.villages(4) + helper.villages(5)[-40::3] + helper.some_villages(6, 3, 907, 50):
            for slates in helper.all_slates(village)[::1 + len(village.people()) // 6]:
                now = sum(helper.numbers_by_hand(village, slates).values())
                self.assertTold(heard_in_all(village, slates), now)
                for pair in all_exchanges(village, slates):
                    then = sum(helper.numbers_by_hand(village, behind(slates, *pair)).values())
                    self.assertTold(gain(village, slates, *pair), then - now)
                self.assertTold(best_exchange(village, slates), best_by_hand(village, slates))

    def climb(self, village, slates):
        row = [slates]
        best = best_by_hand(village, slates)
        while best is not None:
            row.append(behind(row[-1], *best))
            best = best_by_hand(village, row[-1])
        return row

    def test_climbed(self):
        for village in helper.villages(4) + helper.villages(5)[-30::5] + helper.some_villages(7, 3, 908, 50):
            for slates in helper.all_slates(village)[::1 + len(village.people()) // 2]:
                told = climbed(village, helper.as_tuples(slates))
                self.assertTold(told, self.climb(village, slates))
                every = told + [slate for step in told for slate in step.values()]
                self.assertEqual(len({id(thing) for thing in every}), len(every))

    def test_one_person_and_two(self):
        for village, slates, total in ((ALONE, {"a": []}, 7), (TWO, {"a": ["b"], "b": ["a"]}, 10)):
            self.assertTold(heard_in_all(village, slates), total)
            self.assertTold(best_exchange(village, slates), None)
            self.assertTold(climbed(village, slates), [slates])

    def test_sixty_people(self):
        for seed, village in enumerate(helper.great_villages(909)):
            slates = helper.drawn_slates(village, seed)
            now = sum(helper.numbers_by_hand(village, slates).values())
            self.assertTold(heard_in_all(village, slates), now)
            for pair in all_exchanges(village, slates)[seed::15]:
                then = sum(helper.numbers_by_hand(village, behind(slates, *pair)).values())
                self.assertTold(gain(village, slates, *pair), then - now)
            row = climbed(village, slates)
            self.assertTold(row[0], slates)
            self.assertIs(best_exchange(village, row[-1]), None)
            for ahead, then in list(zip(row, row[1:]))[::40]:
                self.assertTold(behind(ahead, *best_by_hand(village, ahead)), then)

    def test_a_star_climbs_to_falling_news(self):
        # behind each exchange of two friends the later one has heard of the other, and no longer the other way
        village = helper.star_village(60, list(range(1, 61)))
        slates = helper.friends(village)
        middle = village.people()[59]
        falling = slates[middle][::-1]
        row = climbed(village, {**slates, middle: falling[:10] + falling[10:38][::-1] + falling[38:]})
        self.assertEqual(row[-1][middle], falling)
        # each of them gains, whichever is best
        self.assertEqual(len(row), 1 + 28 * 27 // 2)


class Example(helper.Told):
    """9.7, what it has of exchanges in slates."""

    def test_example(self):
        self.assertTold(changed_by(EXAMPLE, SLATES, "b", 0), ([("a", "c")], [("c", "a"), ("d", "a")]))
        self.assertTold(gain(EXAMPLE, SLATES, "b", 0), 1)
        self.assertTold(heard_in_all(EXAMPLE, SLATES), 12)
        self.assertTold(best_exchange(EXAMPLE, SLATES), ("b", 0))
        row = climbed(EXAMPLE, SLATES)
        self.assertEqual(len(row), 2)
        self.assertTold(heard_in_all(EXAMPLE, row[1]), 13)
        self.assertTold(row[1], {**SLATES, "b": ["a", "c"]})
