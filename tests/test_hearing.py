"""Points 11.3, 11.4 and what 11.6 has of them: surely, perhaps, never; dates that show it; all at once."""

import itertools
import random

from heardsince.errors import BadSpans, BadTruth, BadVillage, NoPerson
from heardsince.hearing import barring, hearing, least_heard, most_heard, open_ones, shown, sure_ones
from heardsince.villages import Village
from tests import helper
from tests.test_spans import all_dates, do_go_with, drawn_cases, drawn_spans

EXAMPLE = helper.example_village()
SPANS = {("a", "b"): (1, 2), ("b", "c"): (2, 4), ("c", "d"): (3, 3)}
ALONE = Village(["a"], [], [1])
TWO = Village(["a", "b"], [("b", "a")], [1, 1])


def doors_on(village, one, other):
    """The doors on the way from one to other, as the village has them."""
    way = helper.way(village, one, other)
    return [door if door in village.ties() else door[::-1] for door in zip(way, way[1:])]


def word_by_doors(village, spans, one, other):
    doors = doors_on(village, other, one)
    if any(spans[x][0] > spans[y][1] for x, y in itertools.combinations(doors, 2)):
        return "never"
    return "surely" if all(spans[y][0] > spans[x][1] for x, y in zip(doors, doors[1:])) else "perhaps"


class Hearing(helper.Told):
    """11.3."""

    def right_pair(self, village, spans, told):
        """That a told pair is of dates within spans and of slates that go with them; who has heard of whom then."""
        self.assertIsInstance(told, tuple)
        dates, slates = told
        self.assertEqual((list(dates), list(slates)), (village.ties(), village.people()))
        self.assertTrue(all(spans[tie][0] <= dates[tie] <= spans[tie][1] for tie in village.ties()))
        self.assertEqual({person: sorted(slate) for person, slate in slates.items()},
                         {person: sorted(slate) for person, slate in helper.friends(village).items()})
        self.assertTrue(do_go_with(dates, slates))
        return helper.table_by_hand(village, slates)

    def test_all_dates_and_slates(self):
        for village, spans in drawn_cases(1104, 8):
            every = all_dates(village, spans)
            tables = [helper.table_by_hand(village, slates) for slates in helper.all_slates(village)
                      if any(do_go_with(dates, slates) for dates in every)]
            self.assertTrue(tables)
            for one, other in itertools.product(village.people(), repeat=2):
                heard = {other in table[one] for table in tables}
                word = {(True,): "surely", (False,): "never"}.get(tuple(heard), "perhaps")
                self.assertTold(hearing(village, spans, one, other), word)
                self.assertEqual(word, word_by_doors(village, spans, one, other))
                for truth in (True, False):
                    told = shown(village, spans, one, other, truth)
                    self.assertIs(told is None, truth not in heard)
                    if told is not None:
                        self.assertIs(other in self.right_pair(village, spans, told)[one], truth)
                late = [(x, y) for x, y in itertools.combinations(doors_on(village, other, one), 2)
                        if spans[x][0] > spans[y][1]]
                self.assertTold(barring(village, spans, one, other), late[0] if late else None)
                self.assertIs(barring(village, spans, one, other) is not None, word == "never")

    def test_one_person_and_two(self):
        self.assertTold(hearing(ALONE, {}, "a", "a"), "surely")
        self.assertTold(barring(ALONE, {}, "a", "a"), None)
        self.assertTold(shown(ALONE, {}, "a", "a", True), ({}, {"a": []}))
        self.assertTold(shown(ALONE, {}, "a", "a", False), None)
        for one, other in itertools.product("ab", repeat=2):
            self.assertTold(hearing(TWO, {("a", "b"): [3, 10 ** 15]}, one, other), "surely")
            self.assertTold(shown(TWO, {("a", "b"): [3, 10 ** 15]}, one, other, False), None)
            self.right_pair(TWO, {("b", "a"): (3, 10 ** 15)}, shown(TWO, {("a", "b"): (3, 10 ** 15)}, one, other, True))

    def test_great_villages(self):
        drawn = random.Random(1105)
        for village in helper.great_villages(1106):
            for most, width in ((10 ** 15, 5 * 10 ** 14), (30, 20), (0, 0), (3, 60)):
                spans = drawn_spans(village, most, width, drawn)
                for one, other in list(itertools.product(village.people(), repeat=2))[::151]:
                    word = word_by_doors(village, spans, one, other)
                    self.assertTold(hearing(village, helper.turned_keys(spans), one, other), word)
                    for truth, without in ((True, "never"), (False, "surely")):
                        told = shown(village, spans, one, other, truth)
                        self.assertIs(told is None, word == without)
                        if told is not None:
                            self.assertIs(other in self.right_pair(village, spans, told)[one], truth)
                    late = [(x, y) for x, y in itertools.combinations(doors_on(village, other, one), 2)
                            if spans[x][0] > spans[y][1]]
                    self.assertTold(barring(village, spans, one, other), late[0] if late else None)

    def test_bad_truth(self):
        for thing in helper.any_objects() + [0, 1, "True"]:
            if thing is not True and thing is not False:
                self.assertRaisesJust(BadTruth, {"heard": thing}, shown, EXAMPLE, SPANS, "a", "b", thing)

    def test_errors_in_order(self):
        calls = ((hearing, (None, None)), (barring, (None, None)), (shown, (None, None, None)), (sure_ones, (None,)),
                 (open_ones, (None,)), (most_heard, (None,)), (least_heard, (None,)))
        for thing in helper.any_objects() + [{**SPANS, ("c", "b"): (2, 4)}, {**SPANS, ("c", "d"): (3, 2)}]:
            for function, more in calls:
                if not isinstance(thing, Village):
                    self.assertRaisesJust(BadVillage, {"thing": thing}, function, thing, None, *more)
                self.assertRaisesJust(BadSpans, {"spans": thing}, function, EXAMPLE, thing, *more)
                self.assertRaisesJust(NoPerson, {"person": thing}, function, EXAMPLE, SPANS, thing, *more[1:])
                if len(more) > 1:
                    self.assertRaisesJust(NoPerson, {"person": thing}, function, EXAMPLE, SPANS, "a", thing, *more[2:])


class AllAtOnce(Hearing):
    """11.4."""

    def right_at_once(self, village, spans, person):
        words = {other: word_by_doors(village, spans, person, other) for other in village.people()}
        sure = [other for other in village.people() if words[other] == "surely"]
        some = [other for other in village.people() if words[other] == "perhaps"]
        self.assertTold(sure_ones(village, spans, person), sure)
        self.assertTold(open_ones(village, helper.turned_keys(spans), person), some)
        most = self.right_pair(village, spans, most_heard(village, spans, person))
        self.assertEqual(most[person], [other for other in village.people() if other in sure + some])
        self.assertEqual(self.right_pair(village, spans, least_heard(village, spans, person))[person], sure)

    def test_all_dates_and_slates(self):
        for village, spans in drawn_cases(1107, 25, 5, 3):
            for person in village.people():
                self.right_at_once(village, spans, person)

    def test_one_person_and_two(self):
        for village, spans in ((ALONE, {}), (TWO, {("b", "a"): (3, 3)}), (TWO, {("b", "a"): (0, 10 ** 15)})):
            for person in village.people():
                self.right_at_once(village, spans, person)

    def test_great_villages(self):
        drawn = random.Random(1108)
        for village in helper.great_villages(1109):
            for most, width in ((10 ** 15, 5 * 10 ** 14), (30, 20), (0, 0), (3, 60)):
                spans = drawn_spans(village, most, width, drawn)
                for person in village.people()[::20] + village.people()[-1:]:
                    self.right_at_once(village, spans, person)

    def test_equal_answers_whatever_way_round(self):
        for village, spans in drawn_cases(1110, 3):
            about = {tie: list(span) for tie, span in helper.turned_keys(spans).items()}
            for person in village.people():
                for function in (most_heard, least_heard):
                    self.assertTold(function(village, about, person), function(village, spans, person))


class Example(helper.Told):
    """11.6, what it has of hearing."""

    def test_example(self):
        self.assertTold(hearing(EXAMPLE, SPANS, "d", "a"), "perhaps")
        self.assertTold(hearing(EXAMPLE, SPANS, "a", "d"), "never")
        self.assertTold(barring(EXAMPLE, SPANS, "a", "d"), (("c", "d"), ("a", "b")))
        self.assertTold(sure_ones(EXAMPLE, SPANS, "a"), ["a", "b"])
        self.assertTold(open_ones(EXAMPLE, SPANS, "a"), ["c"])
