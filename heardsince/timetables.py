"""Timetables of a week that comes again for ever: delays, what one knows on an evening, and how old it is."""

from heardsince.checks import is_integer, is_number
from heardsince.meetingdays import are_unlike_at_each, both_ways, by_ties, slates_by
from heardsince.refusals import BadDay, BadTimetable, BadWeek
from heardsince.villages import check_two, check_village, inward_from


def is_timetable(village, week, thing):
    """Whether a thing is a dict from just all meetings to days of the week, unlike ones of one person."""
    check_village(village)
    check_week(week)
    return timetable_by_ties(village, week, thing) is not None


def slates_in(village, week, timetable):
    """The slates of any one week."""
    return slates_by(village, checked_timetable(village, week, timetable))


def delay(village, week, timetable, one, other):
    """The sum of the gaps on the way from other to one."""
    days = checked_timetable(village, week, timetable)
    check_two(village, one, other)
    return first_and_delay(village, week, days, other)[one][1]


def known_day(village, week, timetable, one, other, day):
    """The latest day up to which one knows on the evening of a day how it was with other, None if nothing is known."""
    days = checked_timetable(village, week, timetable)
    check_two(village, one, other)
    check_day(day)
    if one == other:
        return day
    first, late = first_and_delay(village, week, days, other)[one]
    if day - late < first:
        return None
    return day - late - (day - late - first) % week


def age(village, week, timetable, one, other, day):
    """How old it is what one knows of other on the evening of a day, None if nothing is known."""
    known = known_day(village, week, timetable, one, other, day)
    if known is None:
        return None
    return day - known


def first_known(village, week, timetable, one, other):
    """The first day on whose evening one knows anything of other."""
    days = checked_timetable(village, week, timetable)
    check_two(village, one, other)
    return sum(first_and_delay(village, week, days, other)[one])


def settled(village, week, timetable):
    """The first day on whose evening all know of all."""
    days = checked_timetable(village, week, timetable)
    every = [first_and_delay(village, week, days, other) for other in village.people()]
    return max([sum(found[one]) for found in every for one in found])


def oldest(village, week, timetable):
    """The triple (age, one, other) of the greatest age that there ever is, and the first pair that has it; or None."""
    days = checked_timetable(village, week, timetable)
    people = village.people()
    every = {other: first_and_delay(village, week, days, other) for other in people}
    best = None
    for one in people:
        for other in people:
            # ages go up till the last door is met again
            greatest = every[other][one][1] + week - 1
            if one != other and (best is None or greatest > best[0]):
                best = (greatest, one, other)
    return best


def check_week(week):
    """Raises BadWeek."""
    if not is_integer(week) or week < 1:
        raise BadWeek(week)


def check_day(day):
    """Raises BadDay."""
    if not is_number(day):
        raise BadDay(day)


def checked_timetable(village, week, timetable):
    """The dict from ties to days of the week; raises BadVillage, BadWeek, BadTimetable."""
    check_village(village)
    check_week(week)
    days = timetable_by_ties(village, week, timetable)
    if days is None:
        raise BadTimetable(timetable)
    return days


def timetable_by_ties(village, week, thing):
    """The days of a timetable by ties, None for what is no timetable."""
    days = by_ties(village.ties(), thing)
    if days is None or not all([is_number(day) and day < week for day in days.values()]):
        return None
    if not are_unlike_at_each(village, days):
        return None
    return days


def first_and_delay(village, week, days, other):
    """The dict from all people to the pair of the day of the way's first door from other to them, and the delay.

    (0, 0) for other.
    """
    at = both_ways(days)
    inward = inward_from(village, other)
    found = {}
    for one in inward:
        near = inward[one]
        if near is None:
            found[one] = (0, 0)
        elif near == other:
            found[one] = (at[(other, one)], 0)
        else:
            first, late = found[near]
            found[one] = (first, late + (at[(near, one)] - at[(inward[near], near)]) % week)
    return found
