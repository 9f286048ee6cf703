"""Points 11.1, 11.2 and what 11.6 has of them: spans, dates, and tight chains."""

import itertools
import random

from heardsince.days import is_chain
from heardsince.errors import BadDates, BadSlates, BadSpans, BadVillage
from heardsince.spans import dates_for, goes_with, latest_for, tight_chain
from heardsince.villages import Village
from tests import helper

EXAMPLE = helper.example_village()
SLATES = helper.EXAMPLE_SLATES
SPANS = {("a", "b"): (1, 2), ("b", "c"): (2, 4), ("c", "d"): (3, 3)}
DATES = {("a", "b"): 1, ("b", "c"): 2, ("c", "d"): 2}
ALONE = Village(["a"], [], [1])
TWO = Village(["a", "b"], [("b", "a")], [1, 1])
TWO_SLATES = {"a": ["b"], "b": ["a"]}


def drawn_spans(village, most, width, drawn):
    spans = {}
    for tie in village.ties():
        first = drawn.randint(0, most)
        spans[tie] = (first, first + drawn.randint(0, width))
    return spans


def all_dates(village, spans):
    return [dict(zip(village.ties(), row))
            for row in itertools.product(*[range(spans[tie][0], spans[tie][1] + 1) for tie in village.ties()])]


def do_go_with(dates, slates):
    at = {pair: date for tie, date in dates.items() for pair in (tie, tie[::-1])}
    rows = [[at[person, friend] for friend in slates[person]] for person in slates]
    return all(row == sorted(row) for row in rows)


def drawn_cases(seed, count, most=4, width=2):
    drawn = random.Random(seed)
    for village in helper.villages(4) + helper.villages(5)[-1:] + helper.some_villages(5, 3, seed):
        for _ in range(count):
            yield village, drawn_spans(village, most, width, drawn)


class Dates(helper.Told):
    """11.1 and 11.2."""

    def test_goes_with(self):
        for village in helper.villages(4):
            for row in itertools.product((0, 1, 2), repeat=len(village.ties())):
                dates = dict(zip(village.ties(), row))
                for slates in helper.all_slates(village):
                    self.assertIs(goes_with(village, dates, slates), do_go_with(dates, slates))
                    self.assertIs(goes_with(village, helper.turned_keys(dates), helper.as_tuples(slates)),
                                  do_go_with(dates, slates))

    def test_all_dates(self):
        for village, spans in drawn_cases(1101, 5):
            every = all_dates(village, spans)
            for slates in helper.all_slates(village):
                some = [dates for dates in every if do_go_with(dates, slates)]
                early = {tie: min(dates[tie] for dates in some) for tie in village.ties()} if some else None
                late = {tie: max(dates[tie] for dates in some) for tie in village.ties()} if some else None
                self.assertTold(dates_for(village, spans, slates), early)
                self.assertTold(latest_for(village, helper.turned_keys(spans), slates), late)
                self.right_chain(village, spans, slates, early)

    def right_chain(self, village, spans, slates, early):
        chain = tight_chain(village, spans, slates)
        self.assertIs(chain is None, early is not None)
        if chain is not None:
            self.assertIs(is_chain(village, slates, chain), True)
            self.assertLessEqual(set(chain), set(village.ties()))
            self.assertGreater(spans[chain[0]][0], spans[chain[-1]][1])

    def test_one_person_and_two(self):
        self.assertIs(goes_with(ALONE, {}, {"a": []}), True)
        self.assertTold(dates_for(ALONE, {}, {"a": []}), {})
        self.assertTold(latest_for(ALONE, {}, {"a": ()}), {})
        self.assertTold(tight_chain(ALONE, {}, {"a": []}), None)
        for span in ((0, 0), [3, 7], (10 ** 15, 10 ** 15)):
            self.assertTold(dates_for(TWO, {("a", "b"): span}, TWO_SLATES), {("b", "a"): span[0]})
            self.assertTold(latest_for(TWO, {("a", "b"): span}, TWO_SLATES), {("b", "a"): span[1]})
            self.assertTold(tight_chain(TWO, {("a", "b"): span}, TWO_SLATES), None)

    def test_great_villages(self):
        drawn = random.Random(1102)
        for seed, village in enumerate(helper.great_villages(1103)):
            slates = helper.drawn_slates(village, seed)
            for most, width in ((10 ** 15, 10 ** 14), (60, 60), (10, 100), (0, 0), (0, 3)):
                spans = drawn_spans(village, most, width, drawn)
                early, late = dates_for(village, spans, slates), latest_for(village, spans, slates)
                self.assertIs(early is None, late is None)
                self.right_chain(village, spans, slates, early)
                if early is not None:
                    for dates in (early, late):
                        self.assertTrue(do_go_with(dates, slates))
                        self.assertIs(goes_with(village, dates, slates), True)
                        self.assertTrue(all(spans[tie][0] <= dates[tie] <= spans[tie][1] for tie in spans))
                    for tie in spans:
                        self.no_way_on(village, spans, slates, {**early, tie: early[tie] - 1}, tie)
                        self.no_way_on(village, spans, slates, {**late, tie: late[tie] + 1}, tie)

    def no_way_on(self, village, spans, slates, dates, tie):
        """That what is a day earlier, or later, lies outside its span or passes by a neighbour."""
        self.assertFalse(do_go_with(dates, slates) and spans[tie][0] <= dates[tie] <= spans[tie][1])

    def test_bad_spans(self):
        wrong = [thing for thing in helper.any_objects() if thing != {}]
        wrong += [{**SPANS, ("b", "a"): (1, 2)}, {("a", "b"): (1, 2), ("b", "a"): (1, 2), ("b", "c"): (2, 4)},
                  {("a", "b"): (1, 2)}, {**SPANS, ("a", "c"): (1, 2)}]
        wrong += [{**SPANS, ("b", "c"): span} for span in ((2, 1), (-1, 2), (1,), (1, 2, 3), 1, "12", None, (True, 2),
                                                           (0, True), {1: 2}, [[1], 2], ("1", "2"), (None, 3), (1, None))]
        for thing in wrong + [{}]:
            for function in (dates_for, latest_for, tight_chain):
                self.assertRaisesJust(BadSpans, {"spans": thing}, function, EXAMPLE, thing, None)
                if thing != {}:
                    self.assertRaisesJust(BadSpans, {"spans": thing}, function, ALONE, thing, None)

    def test_bad_dates(self):
        wrong = [thing for thing in helper.any_objects() if thing != {}]
        wrong += [{**DATES, ("b", "a"): 1}, {("a", "b"): 1, ("b", "a"): 1, ("b", "c"): 2}, {("a", "b"): 1}]
        wrong += [{**DATES, ("b", "c"): date} for date in (-1, True, None, "1", (1,), [1], {})]
        for thing in wrong + [{}]:
            self.assertRaisesJust(BadDates, {"dates": thing}, goes_with, EXAMPLE, thing, None)
        for thing in wrong:
            self.assertRaisesJust(BadDates, {"dates": thing}, goes_with, ALONE, thing, None)

    def test_errors_in_order(self):
        for thing in helper.any_objects():
            for function, right in ((goes_with, DATES), (dates_for, SPANS), (latest_for, SPANS), (tight_chain, SPANS)):
                if not isinstance(thing, Village):
                    self.assertRaisesJust(BadVillage, {"thing": thing}, function, thing, None, None)
                self.assertRaisesJust(BadSlates, {"slates": thing}, function, EXAMPLE, right, thing)

    def test_example(self):
        self.assertTold(dates_for(EXAMPLE, SPANS, SLATES), {("a", "b"): 2, ("b", "c"): 2, ("c", "d"): 3})
        self.assertTold(latest_for(EXAMPLE, SPANS, SLATES), {("a", "b"): 2, ("b", "c"): 2, ("c", "d"): 3})
        ahead = {**SLATES, "b": ["a", "c"]}
        self.assertTold(dates_for(EXAMPLE, SPANS, ahead), {("a", "b"): 1, ("b", "c"): 2, ("c", "d"): 3})
        self.assertTold(latest_for(EXAMPLE, SPANS, ahead), {("a", "b"): 2, ("b", "c"): 3, ("c", "d"): 3})
