"""Calendars with told slates in order, by numbers; what is begun of them; one that is drawn."""

from heardsince.calendarcounts import count_orders, links_of
from heardsince.calendars import (calendar_places, check_slates, has_next, meeting_place, meetings_in_order,
                                  ready_meetings, slates_of, tie_places, turns_behind)
from heardsince.checks import is_list, is_number
from heardsince.desks import Desk
from heardsince.errors import BadChooser, BadNumber, BadStart, HeardError
from heardsince.villages import Village


def calendar_at(village, slates, number):
    """The calendar with a number, from 0 on, among those with these slates, as calendars compare."""
    check_slates(village, slates)
    links = links_of(village, slates)
    if not is_number(number) or number >= count_orders(links):
        raise BadNumber(number)
    calendar = []
    left = number
    while len(calendar) < len(links):
        for meeting in ready_behind(village, slates, calendar):
            many = count_behind(village, links, calendar + [meeting])
            if left < many:
                calendar.append(meeting)
                break
            left -= many
    return calendar


def calendar_number(village, calendar):
    """The number of a calendar among those alike to it."""
    slates = slates_of(village, calendar)
    links = links_of(village, slates)
    ties = village.ties()
    ahead = []
    number = 0
    for place in calendar_places(village, calendar):
        for meeting in ready_behind(village, slates, ahead):
            if ties.index(meeting) < place:
                number += count_behind(village, links, ahead + [meeting])
        ahead.append(ties[place])
    return number


def next_calendar(village, calendar):
    """The calendar alike to this one with the next number, None for the last one."""
    slates = slates_of(village, calendar)
    ties = village.ties()
    places = calendar_places(village, calendar)
    for many in reversed(range(len(places))):
        ahead = [ties[place] for place in places[:many]]
        for meeting in ready_behind(village, slates, ahead):
            if ties.index(meeting) > places[many]:
                return meetings_in_order(ties, slates, ahead + [meeting])
    return None


def last_calendar(village, slates):
    """The last calendar with these slates."""
    check_slates(village, slates)
    # of the ties that can come next the last one is taken each time
    return meetings_in_order(list(reversed(village.ties())), slates, [])


def count_begun(village, slates, start):
    """How many of the calendars with these slates begin with start."""
    check_start(village, slates, start)
    return count_behind(village, links_of(village, slates), start)


def next_meetings(village, slates, start):
    """The list of the meetings that can come next behind start."""
    check_start(village, slates, start)
    return ready_behind(village, slates, start)


def drawn_calendar(village, slates, chooser):
    """The calendar with the number that a chooser tells, who is handed how many there are."""
    check_slates(village, slates)
    if not is_function(chooser):
        raise BadChooser(chooser)
    # the chooser might change the slates that were passed
    kept = {person: list(slates[person]) for person in slates}
    return calendar_at(village, kept, chooser(count_orders(links_of(village, kept))))


def is_function(thing):
    """Whether a thing may be called: it is no integer, string, None, list, tuple, dict or object of the package."""
    return thing is not None and not isinstance(thing, (int, str, list, tuple, dict, Village, Desk, HeardError))


def check_start(village, slates, start):
    """Raises BadVillage, BadSlates, BadStart."""
    check_slates(village, slates)
    if not is_list(start):
        raise BadStart(0)
    places = tie_places(village.ties())
    turns = turns_behind(slates, [])
    for index, meeting in enumerate(start):
        if meeting_place(places, meeting) is None:
            raise BadStart(index)
        one, other = meeting
        # who stood before has not this friend next any more
        if not has_next(slates[one], turns[one], other) or not has_next(slates[other], turns[other], one):
            raise BadStart(index)
        turns[one] += 1
        turns[other] += 1


def ready_behind(village, slates, start):
    """The list of the meetings, in the order of the ties, that can come next behind start."""
    return ready_meetings(village.ties(), slates, turns_behind(slates, start))


def count_behind(village, links, start):
    """In how many orders the meetings behind start can come."""
    places = tie_places(village.ties())
    held = {places[(one, other)]: True for one, other in start}
    left = {meeting: {near: links[meeting][near] for near in links[meeting] if near not in held}
            for meeting in links if meeting not in held}
    return count_orders(left)
