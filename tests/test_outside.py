"""Point 11.5 and what 11.6 has of it: meetings held outside their spans, off pairs and their worth."""

import itertools
import random

from heardsince.errors import BadSpans, BadVillage, NoPerson
from heardsince.outside import least_off, off_dates, off_pairs, worth_of
from heardsince.villages import Village
from tests import helper
from tests.test_hearing import doors_on
from tests.test_spans import do_go_with, drawn_cases, drawn_spans

EXAMPLE = helper.example_village()
SPANS = {("a", "b"): (1, 2), ("b", "c"): (2, 4), ("c", "d"): (3, 3)}
ALONE = Village(["a"], [], [1])
TWO = Village(["a", "b"], [("b", "a")], [1, 1])


def cost_of(spans, dates):
    return sum(max(0, spans[tie][0] - dates[tie], dates[tie] - spans[tie][1]) for tie in dates)


def least_by_hand(village, spans, person):
    """The least cost by which dates do not fall on any way to a person, by going through all dates."""
    most = max([last for first, last in spans.values()], default=0)
    steps = [(doors[0], doors[1]) for doors in (doors_on(village, one, person) for one in village.people())
             if len(doors) > 1]
    found = []
    for row in itertools.product(range(most + 1), repeat=len(village.ties())):
        dates = dict(zip(village.ties(), row))
        if all(dates[far] <= dates[near] for far, near in steps):
            found.append(cost_of(spans, dates))
    return min(found)


def pairs_by_hand(village, spans, person):
    """All pairs that can stand among off pairs."""
    return sorted({(far, near) for one in village.people()
                   for far, near in itertools.combinations(doors_on(village, one, person), 2)
                   if spans[far][0] > spans[near][1]})


def worth_by_hand(spans, pairs):
    return sum(spans[far][0] - spans[near][1] for far, near in pairs)


def are_apart(pairs):
    meetings = [meeting for pair in pairs for meeting in pair]
    return len(set(meetings)) == len(meetings)


class Outside(helper.Told):

    def right_ones(self, village, spans, person):
        """That dates and off pairs show that nothing costs less."""
        least = least_off(village, spans, person)
        dates, slates = off_dates(village, helper.turned_keys(spans), person)
        self.assertEqual((list(dates), list(slates)), (village.ties(), village.people()))
        self.assertTrue(do_go_with(dates, slates))
        self.assertTrue(all(date >= 0 for date in dates.values()))
        self.assertEqual(helper.table_by_hand(village, slates)[person], village.people())
        self.assertEqual(cost_of(spans, dates), least)
        pairs = off_pairs(village, spans, person)
        self.assertTrue(are_apart(pairs))
        self.assertLessEqual(set(pairs), set(pairs_by_hand(village, spans, person)))
        self.assertEqual(worth_by_hand(spans, pairs), least)
        self.assertTold(worth_of(village, spans, person, pairs), least)
        about = tuple([list(near[::-1]) for near in pair] for pair in reversed(pairs))
        self.assertTold(worth_of(village, helper.turned_keys(spans), person, about), least)
        return least

    def test_all_dates(self):
        for village, spans in drawn_cases(1111, 6, 4, 2):
            for person in village.people():
                self.assertEqual(self.right_ones(village, spans, person), least_by_hand(village, spans, person))

    def test_all_off_pairs(self):
        for village, spans in drawn_cases(1112, 5, 5, 1):
            for person in village.people():
                every = pairs_by_hand(village, spans, person)
                lots = [some for some in helper.subsets(every) if are_apart(some)]
                self.assertEqual(max(worth_by_hand(spans, some) for some in lots), least_off(village, spans, person))
                for some in lots:
                    self.assertTold(worth_of(village, spans, person, some), worth_by_hand(spans, some))
                for pair in itertools.product(village.ties(), repeat=2):
                    self.assertIs(worth_of(village, spans, person, [pair]) is not None, pair in every)

    def test_drawn_ones_of_nine(self):
        drawn = random.Random(1113)
        for village in helper.some_villages(9, 150, 1114) + [helper.row_village(9), helper.star_village(9)]:
            for most, width in ((9, 2), (9, 9), (3, 0)):
                self.right_ones(village, drawn_spans(village, most, width, drawn), drawn.choice(village.people()))

    def test_one_person_and_two(self):
        self.assertTold(least_off(ALONE, {}, "a"), 0)
        self.assertTold(off_dates(ALONE, {}, "a"), ({}, {"a": []}))
        self.assertTold(off_pairs(ALONE, {}, "a"), [])
        self.assertTold(worth_of(ALONE, {}, "a", ()), 0)
        for person in "ab":
            self.assertEqual(self.right_ones(TWO, {("b", "a"): (3, 10 ** 15)}, person), 0)

    def test_great_villages(self):
        drawn = random.Random(1115)
        for village in helper.great_villages(1116):
            for most, width in ((10 ** 15, 10 ** 14), (60, 5), (0, 0), (3, 1)):
                spans = drawn_spans(village, most, width, drawn)
                for person in village.people()[::25]:
                    self.right_ones(village, spans, person)

    def test_a_falling_row(self):
        # of sixty in a row whose dates rise outward the outer half is off with the inner one
        village = helper.row_village(60)
        spans = {tie: (place * 10 ** 13, place * 10 ** 13) for place, tie in enumerate(village.ties())}
        self.assertEqual(self.right_ones(village, spans, "a"), sum(range(30, 59)) * 10 ** 13 - sum(range(29)) * 10 ** 13)
        self.assertEqual(self.right_ones(village, spans, village.people()[59]), 0)

    def test_what_is_no_off_pairs(self):
        right = (("c", "d"), ("a", "b"))
        self.assertTold(worth_of(EXAMPLE, SPANS, "a", [right]), 1)
        self.assertTold(worth_of(EXAMPLE, SPANS, "a", [[["d", "c"], ("b", "a")]]), 1)
        wrong = [thing for thing in helper.any_objects() if thing not in ([], ())]
        wrong += [right, [right, right], [right[::-1]], [right + right[:1]], [(right[0],)], [(right[0], right[0])],
                  [(("c", "d"), ("a", "c"))], [(("b", "c"), ("a", "b"))], [right, None], [("cd", "ab")],
                  [(("c", "d"), None)], {right: 1}, [[right]]]
        for thing in wrong:
            self.assertIs(worth_of(EXAMPLE, SPANS, "a", thing), None)
        self.assertIs(worth_of(EXAMPLE, SPANS, "d", [right]), None)
        self.assertIs(worth_of(EXAMPLE, SPANS, "b", [right]), None)
        self.assertTold(worth_of(EXAMPLE, SPANS, "d", []), 0)

    def test_errors_in_order(self):
        for thing in helper.any_objects() + [{**SPANS, ("c", "b"): (2, 4)}, {**SPANS, ("c", "d"): (3, 2)}]:
            for function, more in ((least_off, ()), (off_dates, ()), (off_pairs, ()), (worth_of, (None,))):
                if not isinstance(thing, Village):
                    self.assertRaisesJust(BadVillage, {"thing": thing}, function, thing, None, None, *more)
                self.assertRaisesJust(BadSpans, {"spans": thing}, function, EXAMPLE, thing, None, *more)
                self.assertRaisesJust(NoPerson, {"person": thing}, function, EXAMPLE, SPANS, thing, *more)

    def test_example(self):
        self.assertTold(least_off(EXAMPLE, SPANS, "a"), 1)
        self.assertTold(off_pairs(EXAMPLE, SPANS, "a"), [(("c", "d"), ("a", "b"))])
        dates, slates = off_dates(EXAMPLE, SPANS, "a")
        self.assertTold(dates, {("a", "b"): 2, ("b", "c"): 2, ("c", "d"): 2})
        self.assertTold(slates, {"a": ["b"], "b": ["c", "a"], "c": ["d", "b"], "d": ["c"]})
