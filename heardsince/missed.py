"""Meetings of a timetable that are missed, and how much older they make what is known."""

from heardsince.calendars import meeting_place, tie_places
from heardsince.checks import is_list, is_number
from heardsince.errors import BadMany
from heardsince.meetingdays import tie_names
from heardsince.refusals import BadMissed
from heardsince.timetables import check_day, checked_timetable
from heardsince.villages import check_two


def known_by_missed(village, week, timetable, missed, one, other, day):
    """The latest day up to which one knows, without the meetings that are missed, how it was with other; or None."""
    days = checked_timetable(village, week, timetable)
    gone = checked_missed(village, missed)
    check_two(village, one, other)
    check_day(day)
    held = held_backward(village, week, days, gone, one, other, day)
    if held is None:
        return None
    if len(held) == 0:
        return day
    tie, number = held[-1]
    return days[tie] + number * week


def missed_for(village, week, timetable, one, other, day, many):
    """A list of many missed meetings by which on that day the age is as many weeks more, None if there is none."""
    days = checked_timetable(village, week, timetable)
    check_two(village, one, other)
    check_day(day)
    if not is_number(many):
        raise BadMany(many)
    held = held_backward(village, week, days, {}, one, other, day)
    if held is None:
        return None
    if many == 0:
        return []
    # each time that the first door is missed, what came through it is a week older
    if len(held) == 0 or held[-1][1] < many:
        return None
    tie, number = held[-1]
    return [(tie, number - weeks) for weeks in range(many)]


def checked_missed(village, missed):
    """The dict of True from pairs (tie, number) that are missed; raises BadMissed."""
    if not is_list(missed):
        raise BadMissed(0)
    places = tie_places(village.ties())
    names = tie_names(village.ties())
    found = {}
    for index, thing in enumerate(missed):
        if not is_list(thing) or len(thing) != 2 or meeting_place(places, thing[0]) is None or not is_number(thing[1]):
            raise BadMissed(index)
        pair = (names[(thing[0][0], thing[0][1])], thing[1])
        if pair in found:
            raise BadMissed(index)
        found[pair] = True
    return found


def held_backward(village, week, days, gone, one, other, day):
    """The list of the pairs (tie, number of the week) by which one knows most of other on a day, the last door's first.

    None if one knows nothing.
    """
    names = tie_names(village.ties())
    way = village.way(one, other)
    held = []
    now = day
    for door in zip(way, way[1:]):
        tie = names[door]
        # of one person no two meetings are on one day: so a door further back was met on an earlier one
        number = (now - days[tie]) // week
        while (tie, number) in gone:
            number -= 1
        if number < 0:
            return None
        now = days[tie] + number * week
        held.append((tie, number))
    return held
