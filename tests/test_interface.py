"""The interface at the end of the document: which file defines what."""

import ast
import pathlib
import unittest

PACKAGE = pathlib.Path(__file__).resolve().parent.parent / "heardsince"

FUNCTIONS = {
    "calendars": {
        "is_calendar": "village thing", "is_slates": "village thing", "slates_of": "village calendar",
        "calendar_of": "village slates", "are_alike": "village one other", "has_heard": "village slates one other",
        "heard_of": "village slates person", "heard_by": "village slates person",
        "heard_ahead": "village calendar many"},
    "tables": {
        "table": "village slates", "is_table": "village thing", "count_slates": "village",
        "slates_at": "village number", "slates_number": "village slates", "turned": "village slates",
        "slates_hearing": "village person some"},
    "clashes": {"slates_of_table": "village table", "table_clash": "village table"},
    "peopletables": {"ties_of_table": "people table", "people_clash": "people table"},
    "ledgers": {"ledger": "village slates", "fame": "village slates"},
    "ledgerbreaks": {
        "slates_of_ledger": "village ledger", "ledger_break": "village ledger", "slates_of_fame": "village fame",
        "fame_break": "village fame"},
    "begunledgers": {
        "begun_ledger": "village begun", "begun_of_ledger": "village ledger", "begun_break": "village ledger",
        "moments_fault": "village ledgers", "moments_calendar": "village ledgers"},
    "gifts": {"gift": "village slates one other", "gifts": "village slates", "talks": "village slates"},
    "giftbreaks": {
        "slates_of_gifts": "village gifts", "gift_break": "village gifts", "slates_of_talks": "village talks",
        "talks_break": "village talks"},
    "tellings": {
        "told_at": "village slates one other", "lots_at": "village one other",
        "slates_telling": "village one other some", "gift_counts": "village one other",
        "number_counts": "village person"},
    "lacking": {
        "missing_number": "village part", "part_break": "village part", "suspects": "village ledger",
        "slates_by_part": "village part", "sure_by_part": "village part"},
    "inboxes": {
        "slates_in_box": "village box", "count_in_box": "village box", "numbers_in_box": "village box",
        "sure_in_box": "village box"},
    "nearest": {
        "fewest_wrong": "village ledger", "nearest": "village ledger", "cheapest": "village ledger prices"},
    "calendarcounts": {
        "count_calendars": "village slates", "place_counts": "village slates meeting",
        "mean_place": "village slates meeting", "ahead_word": "village slates one other",
        "surely_ahead": "village slates meeting", "surely_behind": "village slates meeting",
        "ahead_chance": "village slates one other"},
    "calendarnumbers": {
        "calendar_at": "village slates number", "calendar_number": "village calendar",
        "next_calendar": "village calendar", "last_calendar": "village slates",
        "count_begun": "village slates start", "next_meetings": "village slates start",
        "drawn_calendar": "village slates chooser"},
    "exchanges": {
        "exchanged": "village calendar place", "shared_at": "village calendar place",
        "unlike_meetings": "village one other", "exchange_row": "village one other", "distance": "village one other"},
    "slaterows": {
        "unlike_friends": "village one other", "slate_row": "village one other", "slate_distance": "village one other",
        "lies_between": "village one third other"},
    "changes": {
        "changed_by": "village slates person place", "heard_in_all": "village slates",
        "gain": "village slates person place", "best_exchange": "village slates", "climbed": "village slates"},
    "movedmeetings": {"fewest_moved": "village one other prices", "kept_meetings": "village one other prices"},
    "days": {
        "is_plan": "village thing", "slates_of_plan": "village plan", "is_chain": "village slates thing",
        "first_days": "village slates", "fewest_days": "village slates", "longest_chain": "village slates",
        "last_days": "village slates days", "tight": "village slates"},
    "spreads": {
        "plan_within": "village days most", "too_many": "village days most", "least_days": "village most"},
    "away": {
        "left_days": "village away days", "plan_away": "village away days", "crowd": "village away days person",
        "is_crowd": "village away days person thing", "least_days_away": "village away",
        "first_away": "village slates away", "slow_chain": "village slates away"},
    "spans": {
        "goes_with": "village dates slates", "dates_for": "village spans slates", "latest_for": "village spans slates",
        "tight_chain": "village spans slates"},
    "hearing": {
        "hearing": "village spans one other", "barring": "village spans one other",
        "shown": "village spans one other heard", "sure_ones": "village spans person",
        "open_ones": "village spans person", "most_heard": "village spans person",
        "least_heard": "village spans person"},
    "outside": {
        "least_off": "village spans person", "off_dates": "village spans person", "off_pairs": "village spans person",
        "worth_of": "village spans person thing"},
    "rounds": {
        "falls": "village slates one other", "heard_in": "village slates one other",
        "table_behind": "village slates rounds", "ledger_behind": "village slates rounds",
        "rounds_of": "village slates person", "rounds_for": "village slates", "last_to_hear": "village slates"},
    "fewrounds": {
        "slates_within": "village rounds", "way_against": "village rounds", "is_way_against": "village rounds thing",
        "least_rounds": "village", "nearest_within": "village slates rounds"},
    "hearts": {
        "heart": "village hearers tellers", "slates_for": "village hearers tellers rounds",
        "heart_way": "village hearers tellers rounds", "is_heart_way": "village hearers tellers rounds thing",
        "least_rounds_for": "village hearers tellers"},
    "timetables": {
        "is_timetable": "village week thing", "slates_in": "village week timetable",
        "delay": "village week timetable one other", "known_day": "village week timetable one other day",
        "age": "village week timetable one other day", "first_known": "village week timetable one other",
        "settled": "village week timetable", "oldest": "village week timetable"},
    "missed": {
        "known_by_missed": "village week timetable missed one other day",
        "missed_for": "village week timetable one other day many"},
    "gaps": {
        "gaps_of": "village week timetable", "timetable_of": "village week gaps", "gap_clash": "village week gaps"},
    "shortest": {"timetable_within": "village week number", "least_delay": "village week"},
    "sayings": {
        "fits": "village slates sayings", "orders_of": "village sayings", "sayers": "village sayings person x y",
        "fault_of": "village sayings", "slates_fit": "village sayings", "way_of_orders": "village sayings person x y"},
    "fitting": {
        "count_fit": "village sayings", "chance_fit": "village sayings one other", "slates_of_all": "village sayings",
        "count_of_all": "village sayings", "clash_of": "village sayings"},
    "listeners": {"known_sets": "village person sayings", "not_so": "village person sayings"},
    "views": {
        "view": "village slates person", "is_view": "village person thing", "count_views": "village person",
        "slates_of_view": "village person view", "count_of_view": "village person view",
        "seen_chance": "village person view one other", "two_ways": "village person view one other"},
    "observers": {
        "stretches": "village slates lot", "are_alike_for": "village slates others lot",
        "count_alike": "village slates lot", "known_chance": "village slates lot one other",
        "seams": "village slates", "seers": "village slates seam", "knows_all": "village slates lot",
        "fewest_observers": "village slates", "apart_seams": "village slates", "fewest_hearers": "village slates",
        "apart_people": "village slates"},
    "cancelled": {
        "heard_without": "village slates cancelled one other", "ledger_without": "village slates cancelled",
        "carried": "village slates one other", "lost_by": "village slates one other", "idle": "village slates hearers"},
    "cuts": {
        "fewest_cut": "village slates hearers tellers kept", "rumours_apart": "village slates hearers tellers kept",
        "kept_rumour": "village slates hearers tellers kept", "is_cut": "village slates hearers tellers kept thing",
        "are_apart": "village slates hearers tellers kept thing"},
    "cutprices": {
        "cheapest_cut": "village slates hearers tellers costs", "paid_rumours": "village slates hearers tellers costs",
        "are_paid": "village slates hearers tellers costs thing"},
    "lastmeetings": {"put_last": "village slates one other", "changed_last": "village slates one other"},
    "allhearers": {
        "hear_all": "village slates", "told_all": "village slates", "slates_to": "village person",
        "count_hearing": "village by person", "count_both": "village by one other", "count_somebody": "village by"},
    "chances": {
        "chance": "village by person some", "chance_told": "village by person some",
        "chance_given": "village by person some known", "mean_ledger": "village by"},
    "chancespreads": {"chance_just": "village by person some", "spread": "village by person"},
    "forgetful": {
        "heard_with": "village slates memory one other", "table_with": "village slates memory",
        "ledger_with": "village slates memory", "still_knows": "village slates memory person",
        "least_memory": "village slates one other", "pairs_by_memory": "village slates",
        "memory_for": "village slates wishes"},
    "memorywishes": {"slates_for_wishes": "village memory wishes", "wishes_clash": "village memory wishes"},
    "forgotten": {"chance_with": "village memory one other", "same_ledgers": "village memory"},
    "joinings": {
        "is_porch": "village thing", "porch_people": "village porch", "porch_gift": "village porch",
        "gainers": "village porch", "joined": "first second porch entry", "joined_slates": "first second porch entry",
        "parted": "village one other", "porches_of": "village slates one other", "between": "village one other name",
        "between_slates": "village slates one other name"},
    "sides": {
        "side_told": "village one other numbers", "side_break": "village one other numbers",
        "door_fault": "village ledger one other", "told_but_two": "village part one other"},
    "threads": {
        "thread": "village slates person", "ends": "village slates", "lamps": "village calendar many",
        "round_of": "village slates", "sides": "village slates person"},
    "seatings": {"crossing": "village seating", "slates_seated": "village seating"},
    "fewsayings": {
        "fewest_sayings": "village slates", "first_seams": "village slates", "leaves_one": "village slates sayings"},
    "callers": {
        "kept_table": "village calendar keeper", "silent_heard": "village slates lot one other",
        "fewest_silent": "village slates hearers tellers", "apart_rumours": "village slates hearers tellers"},
    "callerwishes": {
        "wished_calendar": "village wisher", "run_asker": "village slates asker", "beat_asker": "village asker",
        "same_numbers": "village lot"},
    "desktexts": {"write_desk": "desk", "read_desk": "text"},
}
VILLAGE = {
    "__init__": "self people ties news", "people": "self", "ties": "self", "news": "self", "friends": "self person",
    "way": "self one other", "behind": "self one other", "__eq__": "self other"}
DESK = {
    "__init__": "self village", "__eq__": "self other", "village": "self", "held": "self", "watched": "self",
    "do": "self deed", "is_question": "self thing", "answer": "self question", "way_on": "self one other",
    "barred_at": "self one other", "best_on": "self person", "would": "self deed", "free_meetings": "self",
    "count": "self", "undo": "self", "again": "self", "deeds": "self", "at": "self number", "copy": "self",
    "trial": "self work"}
CLASSES = (("villages", "Village", VILLAGE), ("desks", "Desk", DESK))


def parameters(function):
    names = function.args
    assert not (names.posonlyargs or names.kwonlyargs or names.vararg or names.kwarg or names.defaults)
    return " ".join(name.arg for name in names.args)


def defined(body):
    return {part.name: parameters(part) for part in body if isinstance(part, ast.FunctionDef)}


class Interface(unittest.TestCase):

    def tree(self, name):
        return ast.parse((PACKAGE / (name + ".py")).read_text())

    def test_functions_stand_in_their_files(self):
        for name, functions in FUNCTIONS.items():
            own = defined(self.tree(name).body)
            self.assertEqual({function: own.get(function) for function in functions}, functions)

    def test_classes_stand_in_their_files_with_their_methods(self):
        for name, title, methods in CLASSES:
            classes = [part for part in self.tree(name).body if isinstance(part, ast.ClassDef)]
            self.assertEqual([one.name for one in classes], [title])
            own = defined(classes[0].body)
            self.assertEqual({method: own.get(method) for method in methods}, methods)
