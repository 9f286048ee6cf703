"""Timetables by which no delay is long."""

from heardsince.checks import is_number
from heardsince.errors import BadNumber
from heardsince.timetables import check_week, first_and_delay
from heardsince.villages import check_village


def timetable_within(village, week, number):
    """A timetable by which no delay is more than a number, None if there is none."""
    check_village(village)
    check_week(week)
    if not is_number(number):
        raise BadNumber(number)
    longest, timetable = shortest_timetable(village, week)
    if longest is None or longest > number:
        return None
    return timetable


def least_delay(village, week):
    """The least number such that by some timetable no delay is more, None if there are no timetables."""
    check_village(village)
    check_week(week)
    return shortest_timetable(village, week)[0]


def shortest_timetable(village, week):
    """The pair of the least greatest delay and the first timetable that has it; None twice if there are none."""
    least = None
    best = None
    for days in all_timetables(village, week):
        longest = longest_delay(village, week, days)
        if least is None or longest < least:
            least = longest
            best = days
    return least, best


def all_timetables(village, week):
    """The list of all timetables in which the first tie is met on day 0: delays hang on gaps alone."""
    found = [{}]
    for place, tie in enumerate(village.ties()):
        many = 1 if place == 0 else week
        found = [{**days, tie: day} for days in found for day in range(many) if is_left(days, tie, day)]
    return found


def is_left(days, tie, day):
    """Whether neither of a tie's people has another meeting on a day."""
    return not any([days[held] == day and (tie[0] in held or tie[1] in held) for held in days])


def longest_delay(village, week, days):
    """The greatest delay of a timetable, 0 for one person alone."""
    every = [first_and_delay(village, week, days, other) for other in village.people()]
    return max([found[one][1] for found in every for one in found])
