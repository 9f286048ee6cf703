"""Exchanges in a calendar, of a meeting and the next one, and shortest rows of them between calendars."""

from heardsince.calendars import calendar_places, check_calendar
from heardsince.checks import is_number
from heardsince.clashes import pairs_in_order
from heardsince.errors import BadPlace


def exchanged(village, calendar, place):
    """The calendar in which the meeting at a place and the next one have changed places."""
    return with_exchange(checked_meetings(village, calendar, place), place)


def shared_at(village, calendar, place):
    """The person who has both the meeting at a place and the next one, None if they share nobody."""
    meetings = checked_meetings(village, calendar, place)
    for person in meetings[place]:
        if person in meetings[place + 1]:
            return person
    return None


def unlike_meetings(village, one, other):
    """The list of the pairs of meetings, the first one held ahead of the second one in one, behind it in other."""
    first, second = both_as_told(village, one, other)
    return unlike_pairs(first, second)


def exchange_row(village, one, other):
    """A list of calendars from one to other, each one exchange off the one ahead, as short as can be."""
    first, second = both_as_told(village, one, other)
    return rows_between(first, second)


def distance(village, one, other):
    """How many exchanges lead from one calendar to another one."""
    return len(unlike_meetings(village, one, other))


def check_place(place, many):
    """Raises BadPlace for no number below how many things there are, less one."""
    if not is_number(place) or place >= many - 1:
        raise BadPlace(place)


def calendar_as_told(village, calendar):
    """A calendar with its meetings as the village has them; raises BadVillage, BadCalendar."""
    check_calendar(village, calendar)
    ties = village.ties()
    return [ties[place] for place in calendar_places(village, calendar)]


def checked_meetings(village, calendar, place):
    """A calendar as it is told; raises BadVillage, BadCalendar, BadPlace."""
    meetings = calendar_as_told(village, calendar)
    check_place(place, len(meetings))
    return meetings


def both_as_told(village, one, other):
    """Two calendars as they are told; raises BadVillage, BadCalendar of one, of other."""
    first = calendar_as_told(village, one)
    return first, calendar_as_told(village, other)


def with_exchange(row, place):
    """A row in which what stands at a place and what stands behind it have changed places."""
    return row[:place] + [row[place + 1], row[place]] + row[place + 2:]


def unlike_pairs(row, goal):
    """The list of the pairs (x, y), x ahead of y in a row and behind in a goal, by both their places in the row."""
    places = {thing: place for place, thing in enumerate(goal)}
    return [(x, y) for x, y in pairs_in_order(row) if places[x] > places[y]]


def rows_between(row, goal):
    """The list of rows from a row to a goal, each one exchange off the one ahead, as short as can be."""
    rows = [list(row)]
    for place, thing in enumerate(goal):
        # it comes ahead of those alone that stand behind it in the goal, so no pair is turned about twice
        start = rows[-1].index(thing)
        for at in reversed(range(place, start)):
            rows.append(with_exchange(rows[-1], at))
    return rows
