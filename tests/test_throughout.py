"""Sections 1 and 2: what holds of every function."""

import copy
import inspect
import re

from heardsince import (allhearers, away, begunledgers, calendarcounts, calendarnumbers, calendars, callers, callerwishes,
                        cancelled, chances, chancespreads, changes, clashes, cutprices, cuts, days, desktexts, errors,
                        exchanges, fewrounds, fewsayings, fitting, forgetful, forgotten, gaps, giftbreaks, gifts, hearing,
                        hearts, inboxes, joinings, lacking, lastmeetings, ledgerbreaks, ledgers, listeners, memorywishes,
                        missed, movedmeetings, nearest, observers, outside, peopletables, refusals, rounds, sayings,
                        seatings, shortest, sides, slaterows, spans, spreads, tables, tellings, threads, timetables, views,
                        villages)
from heardsince.desks import Desk
from heardsince.villages import Village
from tests import helper
from tests.test_interface import FUNCTIONS
from tests.test_ledgers import break_by_words

SLATES = helper.EXAMPLE_SLATES
CALENDAR = helper.EXAMPLE_CALENDAR
TABLE = {"a": ["a", "b", "c"], "b": ["a", "b", "c"], "c": ["b", "c", "d"], "d": ["b", "c", "d"]}
FIRST = {"a": 1, "b": 2, "c": 2, "d": 1}
THREES = {"a": 3, "b": 3, "c": 3, "d": 3}
BEGUN = {"a": [], "b": ["c"], "c": ["b", "d"], "d": ["c"]}
ALIKE = [("b", "c"), ("c", "d"), ("a", "b")]
GIFTS = {("a", "b"): 1, ("b", "a"): 2, ("b", "c"): 1, ("c", "b"): 1, ("c", "d"): 2, ("d", "c"): 1}
PART = {"a": 3, "b": 3, "d": 3}
BOX = {"a": (2, 4), "b": (3, 3), "c": (3, 4), "d": (0, 10)}
PRICES = {"a": 1, "b": 2, "c": 3, "d": 4}
ABOUT = {"a": ["b"], "b": ["a", "c"], "c": ["d", "b"], "d": ["c"]}
PLAN = {("a", "b"): 2, ("b", "c"): 1, ("c", "d"): 2}
AWAY = {"b": [1], "c": [2, 7]}
SPANS = {("a", "b"): (1, 2), ("b", "c"): (2, 4), ("c", "d"): (3, 3)}
WEEK = {"village": 0, "week": 7, "timetable": {("a", "b"): 5, ("b", "c"): 2, ("c", "d"): 3}}
GAPS = {("a", "b", "c"): 4, ("c", "b", "a"): 3, ("b", "c", "d"): 1, ("d", "c", "b"): 6}
SAYINGS = [("d", "a", True), ("a", "c", False)]
RING = [("a", "c", True), ("a", "c", False)]
SOME = {"village": 0, "hearers": ["a", "c"], "tellers": ["b", "d"]}
ALL = {"village": 0, "hearers": ["d", "a"], "tellers": ["a", "d"]}


CUT = {"village": 0, "slates": SLATES, "hearers": ["a", "d"], "tellers": ["b", "c"], "kept": [("b", "c")]}
COSTS = {"village": 0, "slates": SLATES, "hearers": ["a", "d"], "tellers": ["b", "c"], "costs": [5, 1, 2]}
MEMORY = {"a": 0, "b": 1, "c": 1, "d": 7}
WISHES = [("a", "c"), ("d", "b"), ("d", "b"), ("c", "c")]
PORCH = (SLATES, "b", 1)
NEXT_DOOR = {"first": 0, "second": Village(["x", "y", "z"], [("y", "x"), ("y", "z")], [4, 5, 6]), "porch": PORCH,
             "entry": ({"x": ["y"], "y": ["z", "x"], "z": ["y"]}, "y", 1)}
NAMES = {"a": "q1", "b": "q2", "c": "q3", "d": "q4"}


def first_one(many):
    """A chooser."""
    return 0


def own_alone(teller, listener, heard):
    """A keeper."""
    return [one for one in heard if one == teller]


def wish_of_slates(person, met, heard):
    """A wisher, for the example and for other names."""
    rows = {**SLATES, **renamed(SLATES, NAMES)}
    return rows[person][len(met)]


def ask_one(pairs):
    """An asker."""
    return {**SLATES, "b": ["a", "c"]} if pairs else "b"


def ask_other_one(pairs):
    """The same of other names."""
    return renamed(ask_one(pairs), NAMES)


def some_desk():
    desk = Desk(helper.example_village())
    for deed in (("meet", "b", "c"), ("hold", ("can", "a", "c")), ("watch", ("left",)), ("meet", "c", "d")):
        desk.do(deed)
    return desk


# of each function right arguments by the names of the parameters; 0 stands for the example's village
CASES = [
    (calendars.is_calendar, {"village": 0, "thing": CALENDAR}),
    (calendars.is_slates, {"village": 0, "thing": SLATES}),
    (calendars.slates_of, {"village": 0, "calendar": CALENDAR}),
    (calendars.calendar_of, {"village": 0, "slates": SLATES}),
    (calendars.are_alike, {"village": 0, "one": CALENDAR, "other": ALIKE}),
    (calendars.has_heard, {"village": 0, "slates": SLATES, "one": "a", "other": "c"}),
    (calendars.heard_of, {"village": 0, "slates": SLATES, "person": "a"}),
    (calendars.heard_by, {"village": 0, "slates": SLATES, "person": "b"}),
    (calendars.heard_ahead, {"village": 0, "calendar": CALENDAR, "many": 2}),
    (tables.table, {"village": 0, "slates": SLATES}),
    (tables.is_table, {"village": 0, "thing": TABLE}),
    (tables.count_slates, {"village": 0}),
    (tables.slates_at, {"village": 0, "number": 3}),
    (tables.slates_number, {"village": 0, "slates": SLATES}),
    (tables.turned, {"village": 0, "slates": SLATES}),
    (tables.slates_hearing, {"village": 0, "person": "a", "some": ["a", "b"]}),
    (clashes.slates_of_table, {"village": 0, "table": TABLE}),
    (clashes.table_clash, {"village": 0, "table": {**TABLE, "a": ["a", "b", "c", "d"]}}),
    (peopletables.ties_of_table, {"people": ["a", "b", "c", "d"], "table": TABLE}),
    (peopletables.people_clash, {"people": ["a", "b", "c", "d"], "table": {**TABLE, "a": ["a", "b", "c", "d"]}}),
    (ledgers.ledger, {"village": 0, "slates": SLATES}),
    (ledgers.fame, {"village": 0, "slates": SLATES}),
    (ledgerbreaks.slates_of_ledger, {"village": 0, "ledger": THREES}),
    (ledgerbreaks.ledger_break, {"village": 0, "ledger": {**THREES, "d": 5}}),
    (ledgerbreaks.slates_of_fame, {"village": 0, "fame": {"a": 2, "b": 4, "c": 4, "d": 2}}),
    (ledgerbreaks.fame_break, {"village": 0, "fame": {**THREES, "d": 5}}),
    (begunledgers.begun_ledger, {"village": 0, "begun": BEGUN}),
    (begunledgers.begun_of_ledger, {"village": 0, "ledger": FIRST}),
    (begunledgers.begun_break, {"village": 0, "ledger": {**FIRST, "c": 1}}),
    (begunledgers.moments_fault, {"village": 0, "ledgers": [FIRST, {"a": 2, "b": 2, "c": 1, "d": 1}]}),
    (begunledgers.moments_calendar, {"village": 0, "ledgers": [FIRST, THREES]}),
    (gifts.gift, {"village": 0, "slates": SLATES, "one": "c", "other": "d"}),
    (gifts.gifts, {"village": 0, "slates": SLATES}),
    (gifts.talks, {"village": 0, "slates": SLATES}),
    (giftbreaks.slates_of_gifts, {"village": 0, "gifts": GIFTS}),
    (giftbreaks.gift_break, {"village": 0, "gifts": {**GIFTS, ("b", "a"): 3}}),
    (giftbreaks.slates_of_talks, {"village": 0, "talks": [3, 2, 3]}),
    (giftbreaks.talks_break, {"village": 0, "talks": [3, 2, 4]}),
    (tellings.told_at, {"village": 0, "slates": SLATES, "one": "c", "other": "d"}),
    (tellings.lots_at, {"village": 0, "one": "c", "other": "d"}),
    (tellings.slates_telling, {"village": 0, "one": "c", "other": "d", "some": ["c", "b"]}),
    (tellings.gift_counts, {"village": 0, "one": "c", "other": "d"}),
    (tellings.number_counts, {"village": 0, "person": "b"}),
    (lacking.missing_number, {"village": 0, "part": PART}),
    (lacking.part_break, {"village": 0, "part": {**PART, "d": 5}}),
    (lacking.suspects, {"village": 0, "ledger": {**THREES, "a": 4}}),
    (lacking.slates_by_part, {"village": 0, "part": {"c": 3}}),
    (lacking.sure_by_part, {"village": 0, "part": {"c": 3, "a": 3}}),
    (inboxes.slates_in_box, {"village": 0, "box": BOX}),
    (inboxes.count_in_box, {"village": 0, "box": BOX}),
    (inboxes.numbers_in_box, {"village": 0, "box": BOX}),
    (inboxes.sure_in_box, {"village": 0, "box": BOX}),
    (nearest.fewest_wrong, {"village": 0, "ledger": {**THREES, "a": 4}}),
    (nearest.nearest, {"village": 0, "ledger": {**THREES, "a": 2, "d": 2}}),
    (nearest.cheapest, {"village": 0, "ledger": {**THREES, "a": 2, "d": 2}, "prices": PRICES}),
    (calendarcounts.count_calendars, {"village": 0, "slates": SLATES}),
    (calendarcounts.place_counts, {"village": 0, "slates": SLATES, "meeting": ("a", "b")}),
    (calendarcounts.mean_place, {"village": 0, "slates": SLATES, "meeting": ("b", "a")}),
    (calendarcounts.ahead_word, {"village": 0, "slates": SLATES, "one": ("a", "b"), "other": ("d", "c")}),
    (calendarcounts.surely_ahead, {"village": 0, "slates": SLATES, "meeting": ("a", "b")}),
    (calendarcounts.surely_behind, {"village": 0, "slates": SLATES, "meeting": ("c", "b")}),
    (calendarcounts.ahead_chance, {"village": 0, "slates": SLATES, "one": ("a", "b"), "other": ("d", "c")}),
    (calendarnumbers.calendar_at, {"village": 0, "slates": SLATES, "number": 1}),
    (calendarnumbers.calendar_number, {"village": 0, "calendar": ALIKE}),
    (calendarnumbers.next_calendar, {"village": 0, "calendar": CALENDAR}),
    (calendarnumbers.last_calendar, {"village": 0, "slates": SLATES}),
    (calendarnumbers.count_begun, {"village": 0, "slates": SLATES, "start": [("c", "b")]}),
    (calendarnumbers.next_meetings, {"village": 0, "slates": SLATES, "start": [("c", "b")]}),
    (calendarnumbers.drawn_calendar, {"village": 0, "slates": SLATES, "chooser": first_one}),
    (exchanges.exchanged, {"village": 0, "calendar": CALENDAR, "place": 1}),
    (exchanges.shared_at, {"village": 0, "calendar": CALENDAR, "place": 0}),
    (exchanges.unlike_meetings, {"village": 0, "one": CALENDAR, "other": CALENDAR[::-1]}),
    (exchanges.exchange_row, {"village": 0, "one": CALENDAR, "other": CALENDAR[::-1]}),
    (exchanges.distance, {"village": 0, "one": CALENDAR, "other": ALIKE}),
    (slaterows.unlike_friends, {"village": 0, "one": SLATES, "other": ABOUT}),
    (slaterows.slate_row, {"village": 0, "one": SLATES, "other": ABOUT}),
    (slaterows.slate_distance, {"village": 0, "one": SLATES, "other": ABOUT}),
    (slaterows.lies_between, {"village": 0, "one": SLATES, "third": {**SLATES, "b": ["a", "c"]}, "other": ABOUT}),
    (changes.changed_by, {"village": 0, "slates": SLATES, "person": "b", "place": 0}),
    (changes.heard_in_all, {"village": 0, "slates": SLATES}),
    (changes.gain, {"village": 0, "slates": SLATES, "person": "c", "place": 0}),
    (changes.best_exchange, {"village": 0, "slates": SLATES}),
    (changes.climbed, {"village": 0, "slates": SLATES}),
    (movedmeetings.fewest_moved, {"village": 0, "one": SLATES, "other": ABOUT, "prices": [1, 5, 1]}),
    (movedmeetings.kept_meetings, {"village": 0, "one": SLATES, "other": ABOUT, "prices": [1, 1, 1]}),
    (days.is_plan, {"village": 0, "thing": PLAN}),
    (days.slates_of_plan, {"village": 0, "plan": PLAN}),
    (days.is_chain, {"village": 0, "slates": SLATES, "thing": [("b", "c"), ("c", "d")]}),
    (days.first_days, {"village": 0, "slates": SLATES}),
    (days.fewest_days, {"village": 0, "slates": SLATES}),
    (days.longest_chain, {"village": 0, "slates": SLATES}),
    (days.last_days, {"village": 0, "slates": SLATES, "days": 3}),
    (days.tight, {"village": 0, "slates": SLATES}),
    (spreads.plan_within, {"village": 0, "days": 4, "most": 1}),
    (spreads.too_many, {"village": 0, "days": 2, "most": 1}),
    (spreads.least_days, {"village": 0, "most": 2}),
    (away.left_days, {"village": 0, "away": AWAY, "days": 4}),
    (away.plan_away, {"village": 0, "away": AWAY, "days": 4}),
    (away.crowd, {"village": 0, "away": AWAY, "days": 2, "person": "a"}),
    (away.is_crowd, {"village": 0, "away": AWAY, "days": 2, "person": "a", "thing": ["b"]}),
    (away.least_days_away, {"village": 0, "away": AWAY}),
    (away.first_away, {"village": 0, "slates": SLATES, "away": AWAY}),
    (away.slow_chain, {"village": 0, "slates": SLATES, "away": AWAY}),
    (spans.goes_with, {"village": 0, "dates": PLAN, "slates": SLATES}),
    (spans.dates_for, {"village": 0, "spans": SPANS, "slates": SLATES}),
    (spans.latest_for, {"village": 0, "spans": SPANS, "slates": ABOUT}),
    (spans.tight_chain, {"village": 0, "spans": {**SPANS, ("b", "c"): (4, 4)}, "slates": SLATES}),
    (hearing.hearing, {"village": 0, "spans": SPANS, "one": "d", "other": "a"}),
    (hearing.barring, {"village": 0, "spans": SPANS, "one": "a", "other": "d"}),
    (hearing.shown, {"village": 0, "spans": SPANS, "one": "d", "other": "a", "heard": False}),
    (hearing.sure_ones, {"village": 0, "spans": SPANS, "person": "a"}),
    (hearing.open_ones, {"village": 0, "spans": SPANS, "person": "a"}),
    (hearing.most_heard, {"village": 0, "spans": SPANS, "person": "a"}),
    (hearing.least_heard, {"village": 0, "spans": SPANS, "person": "a"}),
    (outside.least_off, {"village": 0, "spans": SPANS, "person": "a"}),
    (outside.off_dates, {"village": 0, "spans": SPANS, "person": "a"}),
    (outside.off_pairs, {"village": 0, "spans": SPANS, "person": "a"}),
    (outside.worth_of, {"village": 0, "spans": SPANS, "person": "a", "thing": [(("c", "d"), ("a", "b"))]}),
    (rounds.falls, {"village": 0, "slates": SLATES, "one": "d", "other": "a"}),
    (rounds.heard_in, {"village": 0, "slates": SLATES, "one": "d", "other": "a"}),
    (rounds.table_behind, {"village": 0, "slates": SLATES, "rounds": 1}),
    (rounds.ledger_behind, {"village": 0, "slates": SLATES, "rounds": 2}),
    (rounds.rounds_of, {"village": 0, "slates": SLATES, "person": "b"}),
    (rounds.rounds_for, {"village": 0, "slates": SLATES}),
    (rounds.last_to_hear, {"village": 0, "slates": SLATES}),
    (fewrounds.slates_within, {"village": 0, "rounds": 2}),
    (fewrounds.way_against, {"village": 0, "rounds": 1}),
    (fewrounds.is_way_against, {"village": 0, "rounds": 1, "thing": ["d", "c", "b"]}),
    (fewrounds.least_rounds, {"village": 0}),
    (fewrounds.nearest_within, {"village": 0, "slates": ABOUT, "rounds": 2}),
    (hearts.heart, SOME),
    (hearts.slates_for, {**SOME, "rounds": 1}),
    (hearts.heart_way, {**ALL, "rounds": 1}),
    (hearts.is_heart_way, {**ALL, "rounds": 1, "thing": ["a", "b", "c"]}),
    (hearts.least_rounds_for, SOME),
    (timetables.is_timetable, {"village": 0, "week": 7, "thing": WEEK["timetable"]}),
    (timetables.slates_in, WEEK),
    (timetables.delay, {**WEEK, "one": "d", "other": "a"}),
    (timetables.known_day, {**WEEK, "one": "d", "other": "a", "day": 17}),
    (timetables.age, {**WEEK, "one": "d", "other": "a", "day": 17}),
    (timetables.first_known, {**WEEK, "one": "a", "other": "d"}),
    (timetables.settled, WEEK),
    (timetables.oldest, WEEK),
    (missed.known_by_missed, {**WEEK, "missed": [(("a", "b"), 1), (("b", "c"), 7)], "one": "d", "other": "a",
                              "day": 24}),
    (missed.missed_for, {**WEEK, "one": "d", "other": "a", "day": 30, "many": 2}),
    (gaps.gaps_of, WEEK),
    (gaps.timetable_of, {"village": 0, "week": 7, "gaps": GAPS}),
    (gaps.gap_clash, {"village": 0, "week": 7, "gaps": {**GAPS, ("b", "c", "d"): 2}}),
    (shortest.timetable_within, {"village": 0, "week": 3, "number": 4}),
    (shortest.least_delay, {"village": 0, "week": 3}),
    (sayings.fits, {"village": 0, "slates": {**SLATES, "b": ["a", "c"]}, "sayings": SAYINGS}),
    (sayings.orders_of, {"village": 0, "sayings": SAYINGS}),
    (sayings.sayers, {"village": 0, "sayings": SAYINGS, "person": "b", "x": "a", "y": "c"}),
    (sayings.fault_of, {"village": 0, "sayings": RING}),
    (sayings.slates_fit, {"village": 0, "sayings": SAYINGS}),
    (sayings.way_of_orders, {"village": 0, "sayings": SAYINGS, "person": "b", "x": "a", "y": "c"}),
    (fitting.count_fit, {"village": 0, "sayings": SAYINGS}),
    (fitting.chance_fit, {"village": 0, "sayings": SAYINGS[1:], "one": "d", "other": "a"}),
    (fitting.slates_of_all, {"village": 0, "sayings": SAYINGS}),
    (fitting.count_of_all, {"village": 0, "sayings": [("a", "d", False)]}),
    (fitting.clash_of, {"village": 0, "sayings": RING}),
    (listeners.known_sets, {"village": 0, "person": "a", "sayings": [("a", "d", False)]}),
    (listeners.not_so, {"village": 0, "person": "a", "sayings": [("a", "d", True), ("a", "c", False)]}),
    (views.view, {"village": 0, "slates": SLATES, "person": "b"}),
    (views.is_view, {"village": 0, "person": "a", "thing": [("b", ["c", "b"])]}),
    (views.count_views, {"village": 0, "person": "b"}),
    (views.slates_of_view, {"village": 0, "person": "a", "view": [("b", ["c", "b"])]}),
    (views.count_of_view, {"village": 0, "person": "a", "view": [("b", ["b"])]}),
    (views.seen_chance, {"village": 0, "person": "a", "view": [("b", ["b"])], "one": "d", "other": "b"}),
    (views.two_ways, {"village": 0, "person": "a", "view": [("b", ["b"])], "one": "d", "other": "b"}),
    (observers.stretches, {"village": 0, "slates": SLATES, "lot": ["a"]}),
    (observers.are_alike_for, {"village": 0, "slates": ABOUT, "others": {**ABOUT, "c": ["b", "d"]}, "lot": ["a"]}),
    (observers.count_alike, {"village": 0, "slates": SLATES, "lot": ["d"]}),
    (observers.known_chance, {"village": 0, "slates": SLATES, "lot": ["d"], "one": "a", "other": "c"}),
    (observers.seams, {"village": 0, "slates": SLATES}),
    (observers.seers, {"village": 0, "slates": SLATES, "seam": ("c", "b", "d")}),
    (observers.knows_all, {"village": 0, "slates": SLATES, "lot": ["b"]}),
    (observers.fewest_observers, {"village": 0, "slates": ABOUT}),
    (observers.apart_seams, {"village": 0, "slates": ABOUT}),
    (observers.fewest_hearers, {"village": 0, "slates": ABOUT}),
    (observers.apart_people, {"village": 0, "slates": ABOUT}),
    (cancelled.heard_without, {"village": 0, "slates": SLATES, "cancelled": [("a", "b")], "one": "d", "other": "b"}),
    (cancelled.ledger_without, {"village": 0, "slates": SLATES, "cancelled": [("b", "c"), ("a", "b")]}),
    (cancelled.carried, {"village": 0, "slates": SLATES, "one": "c", "other": "b"}),
    (cancelled.lost_by, {"village": 0, "slates": SLATES, "one": "c", "other": "b"}),
    (cancelled.idle, {"village": 0, "slates": SLATES, "hearers": ["a"]}),
    (cuts.fewest_cut, CUT),
    (cuts.rumours_apart, CUT),
    (cuts.kept_rumour, {**CUT, "kept": [("b", "c"), ("a", "b")]}),
    (cuts.is_cut, {**CUT, "thing": [("a", "b"), ("c", "d")]}),
    (cuts.are_apart, {**CUT, "thing": [["c", "b", "a"], ["b", "c", "d"]]}),
    (cutprices.cheapest_cut, COSTS),
    (cutprices.paid_rumours, COSTS),
    (cutprices.are_paid, {**COSTS, "thing": [(["b", "a"], 4), (["c", "b", "a"], 1)]}),
    (lastmeetings.put_last, {"village": 0, "slates": SLATES, "one": "b", "other": "c"}),
    (lastmeetings.changed_last, {"village": 0, "slates": SLATES, "one": "b", "other": "c"}),
    (allhearers.hear_all, {"village": 0, "slates": {**SLATES, "b": ["a", "c"]}}),
    (allhearers.told_all, {"village": 0, "slates": SLATES}),
    (allhearers.slates_to, {"village": 0, "person": "a"}),
    (allhearers.count_hearing, {"village": 0, "by": "slates", "person": "b"}),
    (allhearers.count_both, {"village": 0, "by": "calendars", "one": "b", "other": "c"}),
    (allhearers.count_somebody, {"village": 0, "by": "calendars"}),
    (chances.chance, {"village": 0, "by": "calendars", "person": "a", "some": ["d"]}),
    (chances.chance_told, {"village": 0, "by": "slates", "person": "a", "some": ["d"]}),
    (chances.chance_given, {"village": 0, "by": "calendars", "person": "a", "some": ["d"], "known": ["c"]}),
    (chances.mean_ledger, {"village": 0, "by": "slates"}),
    (chancespreads.chance_just, {"village": 0, "by": "calendars", "person": "a", "some": ["c", "a", "b"]}),
    (chancespreads.spread, {"village": 0, "by": "calendars", "person": "a"}),
    (forgetful.heard_with, {"village": 0, "slates": SLATES, "memory": MEMORY, "one": "d", "other": "b"}),
    (forgetful.table_with, {"village": 0, "slates": SLATES, "memory": MEMORY}),
    (forgetful.ledger_with, {"village": 0, "slates": SLATES, "memory": MEMORY}),
    (forgetful.still_knows, {"village": 0, "slates": SLATES, "memory": MEMORY, "person": "b"}),
    (forgetful.least_memory, {"village": 0, "slates": SLATES, "one": "d", "other": "b"}),
    (forgetful.pairs_by_memory, {"village": 0, "slates": SLATES}),
    (forgetful.memory_for, {"village": 0, "slates": SLATES, "wishes": WISHES}),
    (memorywishes.slates_for_wishes, {"village": 0, "memory": MEMORY, "wishes": WISHES}),
    (memorywishes.wishes_clash, {"village": 0, "memory": MEMORY, "wishes": WISHES + [("b", "d")]}),
    (forgotten.chance_with, {"village": 0, "memory": MEMORY, "one": "d", "other": "a"}),
    (forgotten.same_ledgers, {"village": 0, "memory": {**MEMORY, "c": 0}}),
    (joinings.is_porch, {"village": 0, "thing": PORCH}),
    (joinings.porch_people, {"village": 0, "porch": PORCH}),
    (joinings.porch_gift, {"village": 0, "porch": PORCH}),
    (joinings.gainers, {"village": 0, "porch": PORCH}),
    (joinings.joined, NEXT_DOOR),
    (joinings.joined_slates, NEXT_DOOR),
    (joinings.parted, {"village": 0, "one": "c", "other": "b"}),
    (joinings.porches_of, {"village": 0, "slates": SLATES, "one": "c", "other": "b"}),
    (joinings.between, {"village": 0, "one": "c", "other": "b", "name": "m"}),
    (joinings.between_slates, {"village": 0, "slates": SLATES, "one": "c", "other": "b", "name": "m"}),
    (sides.side_told, {"village": 0, "one": "b", "other": "c", "numbers": {"c": 4, "d": 4}}),
    (sides.side_break, {"village": 0, "one": "b", "other": "c", "numbers": {"c": 3, "d": 5}}),
    (sides.door_fault, {"village": 0, "ledger": {**THREES, "a": 4}, "one": "b", "other": "c"}),
    (sides.told_but_two, {"village": 0, "part": {"a": 3, "d": 3}, "one": "c", "other": "b"}),
    (threads.thread, {"village": 0, "slates": SLATES, "person": "c"}),
    (threads.ends, {"village": 0, "slates": SLATES}),
    (threads.lamps, {"village": 0, "calendar": CALENDAR, "many": 2}),
    (threads.round_of, {"village": 0, "slates": SLATES}),
    (threads.sides, {"village": 0, "slates": SLATES, "person": "b"}),
    (seatings.crossing, {"village": 0, "seating": ["a", "c", "b", "d"]}),
    (seatings.slates_seated, {"village": 0, "seating": ["d", "c", "a", "b"]}),
    (fewsayings.fewest_sayings, {"village": 0, "slates": SLATES}),
    (fewsayings.first_seams, {"village": 0, "slates": SLATES}),
    (fewsayings.leaves_one, {"village": 0, "slates": SLATES, "sayings": [("d", "b", True), ("a", "c", True)]}),
    (callers.kept_table, {"village": 0, "calendar": CALENDAR, "keeper": own_alone}),
    (callers.silent_heard, {"village": 0, "slates": SLATES, "lot": ["b"], "one": "d", "other": "b"}),
    (callers.fewest_silent, {"village": 0, "slates": SLATES, "hearers": ["a"], "tellers": ["c", "d"]}),
    (callers.apart_rumours, {"village": 0, "slates": SLATES, "hearers": ["a"], "tellers": ["d", "c"]}),
    (callerwishes.wished_calendar, {"village": 0, "wisher": wish_of_slates}),
    (callerwishes.run_asker, {"village": 0, "slates": SLATES, "asker": ask_one}),
    (callerwishes.beat_asker, {"village": 0, "asker": ask_one}),
    (callerwishes.same_numbers, {"village": 0, "lot": ["a"]}),
    (desktexts.write_desk, {"desk": some_desk()}),
    (desktexts.read_desk, {"text": desktexts.write_desk(some_desk())}),
]
METHODS = [
    ("people", {}), ("ties", {}), ("news", {}), ("friends", {"person": "b"}), ("way", {"one": "a", "other": "c"}),
    ("behind", {"one": "b", "other": "c"}),
]

# the error that is due of a parameter, and under which name it keeps the thing; of an index, what it is told for None
DUE = {
    "village": (errors.BadVillage, "thing"), "calendar": (errors.BadCalendar, "calendar"),
    "slates": (errors.BadSlates, "slates"), "person": (errors.NoPerson, "person"), "one": (errors.NoPerson, "person"),
    "other": (errors.NoPerson, "person"), "many": (errors.BadMany, "many"), "number": (errors.BadNumber, "number"),
    "table": (errors.BadTable, "table"), "ledger": (errors.BadLedger, "ledger"), "fame": (errors.BadFame, "fame"),
    "begun": (errors.BadBegun, "begun"), "some": (errors.BadSome, "index"), "people": (errors.BadPeople, "index"),
    "ledgers": (errors.BadLedgers, "index"), "thing": None, "gifts": (errors.BadGifts, "gifts"),
    "talks": (errors.BadTalks, "index"), "part": (errors.BadPart, "part"), "box": (errors.BadBox, "box"),
    "prices": (errors.BadPrices, "prices"), "meeting": (errors.BadMeeting, "meeting"),
    "start": (errors.BadStart, "index"), "chooser": (errors.BadChooser, "thing"), "place": (errors.BadPlace, "place"),
    "third": (errors.BadSlates, "slates"), "plan": (errors.BadPlan, "plan"), "days": (errors.BadDays, "days"),
    "most": (errors.BadMost, "most"), "away": (errors.BadAway, "away"), "spans": (errors.BadSpans, "spans"),
    "dates": (errors.BadDates, "dates"), "heard": (errors.BadTruth, "heard"),
    "rounds": (errors.BadRounds, "rounds"), "hearers": (errors.BadLot, "index"), "tellers": (errors.BadLot, "index"),
    "week": (refusals.BadWeek, "week"), "timetable": (refusals.BadTimetable, "timetable"),
    "day": (refusals.BadDay, "day"), "missed": (refusals.BadMissed, "index"), "gaps": (refusals.BadGaps, "gaps"),
    "sayings": (refusals.BadSayings, "index"), "x": (errors.NoPerson, "person"), "y": (errors.NoPerson, "person"),
    "view": (refusals.BadView, "view"), "others": (errors.BadSlates, "slates"), "lot": (errors.BadLot, "index"),
    "seam": (refusals.BadSeam, "seam"), "cancelled": (refusals.BadMeetings, "index"),
    "kept": (refusals.BadKept, "index"), "costs": (errors.BadCosts, "index"), "by": (refusals.BadBy, "by"),
    "known": (refusals.BadKnown, "index"), "memory": (refusals.BadMemory, "memory"),
    "wishes": (refusals.BadWishes, "index"), "first": (errors.BadVillage, "thing"),
    "second": (errors.BadVillage, "thing"), "porch": (refusals.BadPorch, "porch"),
    "entry": (refusals.BadPorch, "porch"), "name": (refusals.BadName, "name"),
    "numbers": (refusals.BadNumbers, "numbers"), "seating": (refusals.BadSeating, "index"),
    "keeper": (refusals.BadCaller, "thing"), "wisher": (refusals.BadCaller, "thing"),
    "asker": (refusals.BadCaller, "thing"), "desk": (refusals.BadDesk, "thing"), "text": (refusals.BadText, "line"),
}
# what is called
CALLED = ("chooser", "keeper", "wisher", "asker")
# what one and other are where they are no people
OF_CALENDARS = (calendars.are_alike, exchanges.unlike_meetings, exchanges.exchange_row, exchanges.distance)
OF_SLATES = (slaterows.unlike_friends, slaterows.slate_row, slaterows.slate_distance, slaterows.lies_between,
             movedmeetings.fewest_moved, movedmeetings.kept_meetings)
OF_MEETINGS = (calendarcounts.ahead_word, calendarcounts.ahead_chance)
# of some parameters the things among any objects that are right, or of which a later part is wrong
RIGHT_TOO = {
    "village": lambda thing: isinstance(thing, Village),
    "some": lambda thing: isinstance(thing, (list, tuple)),
    "start": lambda thing: thing in ([], ()),
    "chooser": callable,
    "part": lambda thing: thing == {},
    "people": lambda thing: isinstance(thing, (list, tuple)) and len(thing) > 0,
    "ledgers": lambda thing: isinstance(thing, (list, tuple)) and len(thing) > 0,
    "most": lambda thing: thing is None,
    "away": lambda thing: thing == {},
    "heard": lambda thing: thing is True or thing is False,
    "hearers": lambda thing: isinstance(thing, list) and thing[:1] == ["a"],
    "tellers": lambda thing: isinstance(thing, list) and thing[:1] == ["a"],
    "missed": lambda thing: thing in ([], ()),
    "sayings": lambda thing: thing in ([], ()),
    "lot": lambda thing: isinstance(thing, (list, tuple)) and (len(thing) == 0 or thing[0] == "a"),
    "cancelled": lambda thing: thing in ([], ()),
    "kept": lambda thing: thing in ([], ()),
    "known": lambda thing: isinstance(thing, (list, tuple)) and (len(thing) == 0 or thing[0] == "a"),
    "wishes": lambda thing: thing in ([], ()),
    "first": lambda thing: isinstance(thing, Village),
    "second": lambda thing: isinstance(thing, Village),
    "seating": lambda thing: isinstance(thing, list) and thing[:1] == ["a"],
    "keeper": callable,
    "wisher": callable,
    "asker": callable,
    "desk": lambda thing: isinstance(thing, Desk),
    "text": lambda thing: isinstance(thing, str),
}
# where no people at all are right, too
OF_LOTS = (callers.fewest_silent, callers.apart_rumours)
# whose errors come in another order than their parameters
ORDERS = {sides.told_but_two: ["village", "one", "other", "part"]}
QUESTIONS = ("are_alike", "has_heard", "lies_between", "goes_with", "fits", "are_alike_for", "knows_all",
             "heard_without", "are_apart", "are_paid", "heard_with", "silent_heard", "leaves_one")
# of a desk that has held the meeting of b and c right arguments of its methods, and the error of each
DESK_METHODS = [
    ("village", {}, None), ("held", {}, None), ("watched", {}, None), ("free_meetings", {}, None), ("count", {}, None),
    ("deeds", {}, None), ("copy", {}, None), ("undo", {}, None), ("again", {}, None),
    ("do", {"deed": ("meet", "a", "b")}, refusals.BadDeed), ("would", {"deed": ("leave", "d")}, refusals.BadDeed),
    ("is_question", {"thing": ("left",)}, None), ("answer", {"question": ("most", "d")}, refusals.BadQuestion),
    ("way_on", {"one": "a", "other": "c"}, errors.NoPerson), ("best_on", {"person": "d"}, errors.NoPerson),
    ("barred_at", {"one": "d", "other": "a"}, errors.NoPerson), ("at", {"number": 1}, refusals.NoCount),
    ("trial", {"work": lambda desk: desk.held()}, None),
]


def right(arguments):
    """Fresh arguments of a case."""
    return {name: helper.example_village() if thing == 0 and name in ("village", "first") else copy.deepcopy(thing)
            for name, thing in arguments.items()}


def plain(thing):
    """A thing with plain ones in the place of villages and desks."""
    if isinstance(thing, Village):
        return ("village", thing.people(), thing.ties(), thing.news())
    if isinstance(thing, Desk):
        return ("desk", plain(thing.village()), thing.held(), thing.watched(), thing.deeds())
    if isinstance(thing, (list, tuple)):
        return type(thing)(plain(part) for part in thing)
    return thing


def shown(thing):
    return repr(plain(thing))


def renamed(thing, names):
    """A thing with other people's names."""
    if isinstance(thing, str):
        return "".join(names.get(word, word) for word in re.split("([ \n])", thing))
    if isinstance(thing, Village):
        return Village(renamed(thing.people(), names), renamed(thing.ties(), names), thing.news())
    if isinstance(thing, Desk):
        return desktexts.read_desk(renamed(desktexts.write_desk(thing), names))
    if thing is ask_one:
        return ask_other_one
    if isinstance(thing, dict):
        return {renamed(key, names): renamed(part, names) for key, part in thing.items()}
    if isinstance(thing, (list, tuple)):
        return type(thing)(renamed(part, names) for part in thing)
    return thing


def other_case(arguments):
    """The same of a village with other names, in which all else is as in the example."""
    village = Village(["q1", "q2", "q3", "q4"], [("q1", "q2"), ("q2", "q3"), ("q3", "q4")], [1] * 4)
    return {name: village if thing == 0 and name in ("village", "first") else renamed(thing, NAMES)
            for name, thing in arguments.items()}, NAMES


def spoilt(thing):
    """Changes all lists and dicts within a thing."""
    if isinstance(thing, (list, tuple)):
        for part in thing:
            spoilt(part)
    if isinstance(thing, dict):
        for part in thing.values():
            spoilt(part)
        thing.clear()
        thing["spoilt"] = 1
    if isinstance(thing, list):
        thing[:] = ["spoilt"] * 3


def objects(thing):
    """All lists and dicts within a thing."""
    if isinstance(thing, dict):
        return [thing] + [part for value in thing.values() for part in objects(value)]
    if isinstance(thing, (list, tuple)):
        return ([thing] if isinstance(thing, list) else []) + [part for value in thing for part in objects(value)]
    return []


def is_due(function, name):
    """The error that is due of a parameter of a function, None if it may be any object."""
    if name in ("one", "other"):
        for functions, due in ((OF_CALENDARS, "calendar"), (OF_SLATES, "slates"), (OF_MEETINGS, "meeting")):
            if function in functions:
                return DUE[due]
    if name == "prices" and function.__module__ == movedmeetings.__name__:
        return (errors.BadCosts, "index")
    return DUE[name]


def meetings_turned(thing):
    """A thing with all meetings of the example within it the other way round, keys among them."""
    if isinstance(thing, tuple) and len(thing) == 2 and thing in helper.EXAMPLE_TIES:
        return thing[::-1]
    if isinstance(thing, dict):
        return {meetings_turned(key): meetings_turned(part) for key, part in thing.items()}
    if isinstance(thing, (list, tuple)):
        return type(thing)(meetings_turned(part) for part in thing)
    return thing


class Calls(helper.Told):
    """2.1: what holds of all calls."""

    def test_all_functions_of_the_interface_are_here(self):
        listed = [(function.__module__, function.__name__) for function, arguments in CASES]
        self.assertEqual(len(set(listed)), len(listed))
        self.assertEqual(set(listed), {("heardsince." + name, function)
                                       for name, functions in FUNCTIONS.items() for function in functions})

    def test_by_place_or_by_name(self):
        for function, arguments in CASES:
            told = shown(function(*right(arguments).values()))
            self.assertEqual(shown(function(**right(arguments))), told)
            self.assertEqual(shown(function(**dict(reversed(right(arguments).items())))), told)
            self.assertEqual(list(inspect.signature(function).parameters), list(arguments))
        for name, arguments in METHODS:
            method = getattr(helper.example_village(), name)
            self.assertEqual(repr(method(**arguments)), repr(method(*arguments.values())))
            self.assertEqual(list(inspect.signature(method).parameters), list(arguments))

    def test_tuples_for_lists_and_lists_for_tuples(self):
        for function, arguments in CASES:
            told = shown(function(**right(arguments)))
            for change in (helper.as_tuples, helper.as_lists):
                self.assertEqual(shown(function(**{name: change(thing) for name, thing in right(arguments).items()})), told)

    def test_dicts_in_any_order(self):
        for function, arguments in CASES:
            told = shown(function(**right(arguments)))
            about = right(arguments)
            for name, thing in about.items():
                if isinstance(thing, dict):
                    about[name] = dict(reversed(thing.items()))
                if name == "ledgers":
                    about[name] = [dict(reversed(one.items())) for one in thing]
            self.assertEqual(shown(function(**about)), told)

    def test_meetings_either_way_round(self):
        for function, arguments in CASES:
            # gifts are of pairs of friends, the one who gives ahead
            if "gifts" not in arguments:
                told = shown(function(**right(arguments)))
                about = {name: meetings_turned(thing) for name, thing in right(arguments).items()}
                self.assertEqual(shown(function(**about)), told, function)

    def test_arguments_are_not_changed(self):
        for function, arguments in CASES:
            passed = right(arguments)
            ahead = {name: repr(thing) for name, thing in passed.items() if name != "village"}
            told = function(**passed)
            spoilt(told)
            self.assertEqual({name: repr(passed[name]) for name in ahead}, ahead, function)
            self.assertEqual(passed.get("village", helper.example_village()), helper.example_village())

    def test_later_changes_have_no_effect(self):
        for function, arguments in CASES:
            passed = right(arguments)
            told = function(**passed)
            ahead = shown(told)
            spoilt([thing for name, thing in passed.items() if name != "village"])
            self.assertEqual(shown(told), ahead)

    def test_lists_and_dicts_are_new_ones_each_time(self):
        for function, arguments in CASES:
            passed = right(arguments)
            told, again = function(**passed), function(**passed)
            every = objects(told) + objects(again) + objects(list(passed.values()))[1:]
            self.assertEqual(len({id(thing) for thing in every}), len(every), function)
            ahead = shown(again)
            spoilt(told)
            self.assertEqual(shown(again), ahead)
            self.assertEqual(shown(function(**passed)), ahead)

    def test_all_answers_of_small_villages_have_no_list_twice(self):
        for village in helper.villages(4):
            for slates in helper.all_slates(village):
                calendar = calendars.calendar_of(village, slates)
                for told in (calendars.slates_of(village, calendar), tables.table(village, slates),
                             calendars.heard_ahead(village, calendar, len(calendar)), tables.turned(village, slates),
                             ledgerbreaks.slates_of_ledger(village, ledgers.ledger(village, slates))):
                    every = objects(told)
                    self.assertEqual(len({id(thing) for thing in every}), len(every))
                    self.assertEqual(list(told), village.people())

    def test_two_cases_in_turns(self):
        for function, arguments in CASES:
            other, names = other_case(arguments)
            told = shown(function(**right(arguments)))
            told_of_other = repr(renamed(plain(function(**right(arguments))), names))
            for _ in range(2):
                self.assertEqual(shown(function(**other)), told_of_other)
                self.assertEqual(shown(function(**right(arguments))), told)

    def test_two_villages_that_differ_in_one_thing_in_turns(self):
        news = Village(list("abcd"), helper.EXAMPLE_TIES, [1, 1, 1, 2])
        order = Village(list("dcba"), helper.EXAMPLE_TIES, [1] * 4)
        ties = Village(list("abcd"), [("c", "d"), ("b", "c"), ("a", "b")], [1] * 4)
        for _ in range(2):
            self.assertTold(ledgers.ledger(helper.example_village(), SLATES), THREES)
            self.assertTold(ledgers.ledger(news, SLATES), {"a": 3, "b": 3, "c": 4, "d": 4})
            self.assertTold(calendars.heard_of(helper.example_village(), SLATES, "a"), ["a", "b", "c"])
            self.assertTold(calendars.heard_of(order, SLATES, "a"), ["c", "b", "a"])
            self.assertTold(calendars.calendar_of(helper.example_village(), SLATES), CALENDAR)
            self.assertTold(calendars.calendar_of(ties, SLATES), [("b", "c"), ("c", "d"), ("a", "b")])

    def test_questions_are_answered_by_true_or_false(self):
        for function, arguments in CASES:
            if function.__name__.startswith("is_") or function.__name__ in QUESTIONS:
                self.assertIs(function(**right(arguments)), True)

    def test_villages_do_not_change(self):
        village = helper.example_village()
        for function, arguments in CASES:
            passed = right(arguments)
            if "village" in passed:
                function(**{**passed, "village": village})
        self.assertEqual(village, helper.example_village())
        for name, arguments in METHODS:
            getattr(village, name)(**arguments).append("more")
        self.assertEqual(village, helper.example_village())
        self.assertTold(village.friends("b"), ["a", "c"])


class ErrorsDue(helper.Told):
    """2.2: which error is raised, what it keeps, and that nothing is changed."""

    def wrong_for(self, function, name):
        if function in OF_LOTS and name in ("hearers", "tellers"):
            name = "lot"
        right_too = RIGHT_TOO.get(name, lambda thing: False)
        return [thing for thing in helper.any_objects() if not right_too(thing)]

    def names_in_order(self, function, arguments):
        return [name for name in ORDERS.get(function, arguments) if is_due(function, name) is not None]

    def test_each_parameter(self):
        for function, arguments in CASES:
            for name in arguments:
                if is_due(function, name) is not None:
                    for thing in self.wrong_for(function, name):
                        self.due(function, name, {**right(arguments), name: thing})

    def due(self, function, name, passed):
        kind, attribute = is_due(function, name)
        kept = 0 if attribute in ("index", "line") else passed[name]
        self.assertRaisesJust(kind, {attribute: kept}, function, **passed)

    def test_the_first_parameter_goes_first(self):
        for function, arguments in CASES:
            names = self.names_in_order(function, arguments)
            for place, name in enumerate(names):
                later = {behind: None for behind in names[place + 1:]}
                for thing in ("?", -1, 7.5, None):
                    # no floats are called, None is as many as one likes, a text is read by lines
                    if not (thing == 7.5 and name in CALLED or thing is None and name == "most"
                            or thing == "?" and name == "text"):
                        self.due(function, name, {**right(arguments), **later, name: thing})

    def test_errors_change_nothing(self):
        for function, arguments in CASES:
            names = [name for name in arguments if is_due(function, name) is not None]
            told = shown(function(**right(arguments)))
            for name in names:
                passed = {**right(arguments), name: ["?"]}
                ahead = {one: repr(thing) for one, thing in passed.items() if one != "village"}
                with self.assertRaises(errors.HeardError):
                    function(**passed)
                self.assertEqual({one: repr(passed[one]) for one in ahead}, ahead)
                if name != "village":
                    self.assertEqual(passed.get("village", helper.example_village()), helper.example_village())
            self.assertEqual(shown(function(**right(arguments))), told)

    def test_what_is_refused_may_be_long(self):
        village = helper.example_village()
        many = [("a", "b")] * 100000
        self.assertRaisesJust(errors.BadCalendar, {"calendar": many}, calendars.slates_of, village, many)
        self.assertRaisesJust(errors.BadTies, {"index": 1}, Village, ["a", "b"], many, [1, 1])
        long = {**SLATES, "b": ["a", "c"] * 50000}
        self.assertRaisesJust(errors.BadSlates, {"slates": long}, calendars.calendar_of, village, long)
        wide = {number: [] for number in range(100000)}
        self.assertRaisesJust(errors.BadTable, {"table": wide}, clashes.table_clash, village, wide)
        self.assertRaisesJust(errors.BadSome, {"index": 4}, tables.slates_hearing, village, "a", list("abcd") * 20000)

    def test_what_was_told_may_be_passed_on(self):
        village = helper.row_village(60, [10 ** 15] * 60)
        slates = helper.drawn_slates(village, 23)
        numbers = ledgers.ledger(village, slates)
        great = {one: numbers[one] * 10 ** 40 for one in numbers}
        fault = break_by_words(village, great, {one: 10 ** 15 for one in numbers})
        self.assertTold(ledgerbreaks.ledger_break(village, great), fault)
        self.assertGreater(fault[1], 10 ** 50)
        rich = Village(village.people(), village.ties(), [10 ** 50] * 60)
        self.assertTold(ledgerbreaks.slates_of_ledger(rich, ledgers.ledger(rich, slates)), slates)


class DesksThroughout(helper.Told):
    """2.1 and 2.2 of desks, the only objects that change."""

    def desk(self):
        desk = Desk(helper.example_village())
        desk.do(("watch", ("left",)))
        desk.do(("meet", "b", "c"))
        desk.do(("meet", "c", "d"))
        desk.undo()
        return desk

    def told(self, name, arguments, change=copy.deepcopy):
        told = getattr(self.desk(), name)(**{one: change(thing) for one, thing in arguments.items()})
        return repr(told.held() if isinstance(told, Desk) else told.people() if isinstance(told, Village) else told)

    def test_by_place_or_by_name(self):
        for name, arguments, kind in DESK_METHODS:
            self.assertEqual(list(inspect.signature(getattr(self.desk(), name)).parameters), list(arguments))
            if name not in ("village", "copy", "at"):
                told = repr(getattr(self.desk(), name)(*arguments.values()))
                self.assertEqual(self.told(name, arguments), told)

    def test_tuples_for_lists_and_lists_for_tuples(self):
        for name, arguments, kind in DESK_METHODS:
            for change in (helper.as_tuples, helper.as_lists):
                self.assertEqual(self.told(name, arguments, change), self.told(name, arguments))

    def test_arguments_are_not_changed_and_later_changes_have_no_effect(self):
        for name, arguments, kind in DESK_METHODS:
            desk = self.desk()
            passed = {one: helper.as_lists(thing) for one, thing in arguments.items()}
            ahead = repr(passed)
            getattr(desk, name)(**passed)
            self.assertEqual(repr(passed), ahead)
            kept = (desk.deeds(), desk.held(), desk.watched())
            spoilt(list(passed.values()))
            self.assertEqual((desk.deeds(), desk.held(), desk.watched()), kept)

    def test_told_lists_are_new_ones(self):
        for name, arguments, kind in DESK_METHODS:
            if name not in ("do", "undo", "again"):
                desk = self.desk()
                told, again = getattr(desk, name)(**arguments), getattr(desk, name)(**arguments)
                every = objects(told) + objects(again)
                self.assertEqual(len({id(thing) for thing in every}), len(every), name)
                ahead = repr((desk.deeds(), desk.held(), desk.watched()))
                spoilt(told)
                self.assertEqual(repr((desk.deeds(), desk.held(), desk.watched())), ahead)

    def test_errors_keep_the_very_objects_and_change_nothing(self):
        for name, arguments, kind in DESK_METHODS:
            for one in arguments if kind is not None else ():
                desk = self.desk()
                for thing in helper.any_objects():
                    attribute = {"deed": "thing", "question": "thing", "number": "number"}.get(one, "person")
                    self.assertRaisesJust(kind, {attribute: thing}, getattr(desk, name), **{**arguments, one: thing})
                self.assertEqual(desk, self.desk())
                self.assertEqual((desk.deeds(), desk.again()), (self.desk().deeds(), ("meet", "c", "d")))

    def test_two_desks_in_turns(self):
        one, other = self.desk(), Desk(Village(list("dcba"), helper.EXAMPLE_TIES, [1, 2, 3, 4]))
        for _ in range(2):
            self.assertTold(one.answer(("most", "d")), 3)
            self.assertTold(other.answer(("most", "d")), 10)
            self.assertTold(one.best_on("a"), [("c", "d"), ("a", "b")])
            self.assertTold(other.best_on("a"), [("c", "d"), ("b", "c"), ("a", "b")])

    def test_undo_and_again_tell_none_at_the_ends(self):
        desk = Desk(helper.example_village())
        self.assertIs(desk.undo(), None)
        self.assertIs(desk.again(), None)


class WhatItIs(helper.Told):
    """1.1 and 1.2: the one rule, and that the numbers alone tell all."""

    def test_the_one_rule(self):
        for village in helper.villages(4) + helper.some_villages(5, 3, 24):
            for calendar in helper.all_calendars(village):
                slates = calendars.slates_of(village, calendar)
                times = {frozenset(meeting): time for time, meeting in enumerate(calendar)}
                for one in village.people():
                    for other in village.people():
                        row = helper.way(village, other, one)
                        held = [times[frozenset(door)] for door in zip(row, row[1:])]
                        self.assertIs(calendars.has_heard(village, slates, one, other), held == sorted(held))

    def test_there_and_back_by_table_and_numbers(self):
        for seed, village in enumerate(helper.some_villages(12, 40, 25, 50)):
            slates = helper.drawn_slates(village, seed)
            self.assertTold(clashes.slates_of_table(village, tables.table(village, slates)), slates)
            self.assertTold(ledgerbreaks.slates_of_ledger(village, ledgers.ledger(village, slates)), slates)
            self.assertTold(ledgerbreaks.slates_of_fame(village, ledgers.fame(village, slates)), slates)
            self.assertTold(begunledgers.begun_of_ledger(village, begunledgers.begun_ledger(village, slates)), slates)


class KeptObjects(helper.Told):
    """2.1 and 2.2: villages equal none of another class, whatever stands on either side."""

    def test_a_village_among_other_things(self):
        village = helper.example_village()
        for thing in helper.any_objects():
            self.assertIs(village == thing, False)
            self.assertIs(thing == village, False)
            self.assertIs(village in [thing], False)
        self.assertIs(village == Desk(village), False)
        self.assertIs(Desk(village) == village, False)
        self.assertIs(village == helper.example_village(), True)
        self.assertTrue(villages.Village is Village)
