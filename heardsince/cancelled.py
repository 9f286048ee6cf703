"""Cancelled meetings, what a meeting carries, and which ones nobody needs."""

from heardsince.calendars import check_slates, heard_from, meeting_place, tie_places, told_from
from heardsince.checks import is_list
from heardsince.hearts import check_full_lot
from heardsince.ledgers import news_heard
from heardsince.refusals import BadMeetings
from heardsince.tables import turned
from heardsince.villages import check_friends, check_two


def heard_without(village, slates, cancelled, one, other):
    """Whether one has heard of other, some meetings being cancelled."""
    check_cancelled(village, slates, cancelled)
    check_two(village, one, other)
    return other in heard_from(slates_without(village, slates, cancelled), one)


def ledger_without(village, slates, cancelled):
    """The dict from people to how many news they have heard, some meetings being cancelled."""
    check_cancelled(village, slates, cancelled)
    return news_heard(village, slates_without(village, slates, cancelled))


def carried(village, slates, one, other):
    """The pair of the list of all whose news one tells other at their meeting, and that of all who hear it thereby."""
    check_slates(village, slates)
    check_friends(village, one, other)
    told, hearing = carried_over(slates, turned(village, slates), one, other)
    people = village.people()
    return [person for person in people if person in told], [person for person in people if person in hearing]


def lost_by(village, slates, one, other):
    """How many pairs do not hear of one another any more, both ways together, if this meeting is cancelled."""
    told, hearing = carried(village, slates, one, other)
    told_back, hearing_back = carried(village, slates, other, one)
    return len(told) * len(hearing) + len(told_back) * len(hearing_back)


def idle(village, slates, hearers):
    """The list of all meetings by which no hearer hears of anybody."""
    check_slates(village, slates)
    check_full_lot(village, hearers)
    about = turned(village, slates)
    return [(one, other) for one, other in village.ties()
            if not is_heard_through(slates, about, one, other, hearers)
            and not is_heard_through(slates, about, other, one, hearers)]


def check_cancelled(village, slates, cancelled):
    """Raises BadVillage, BadSlates, BadMeetings."""
    check_slates(village, slates)
    index = first_bad_meeting(village, cancelled)
    if index is not None:
        raise BadMeetings(index)


def first_bad_meeting(village, thing):
    """The first index of what is no meeting, or stood before; 0 for no list; None if all is right."""
    if not is_list(thing):
        return 0
    places = tie_places(village.ties())
    stood = {}
    for index, meeting in enumerate(thing):
        place = meeting_place(places, meeting)
        if place is None or place in stood:
            return index
        stood[place] = True
    return None


def slates_without(village, slates, cancelled):
    """What is left of slates, in which those of cancelled meetings do not stand: they are as begun ones."""
    gone = tie_places([(one, other) for one, other in cancelled])
    return {person: [friend for friend in slates[person] if (person, friend) not in gone]
            for person in village.people()}


def carried_over(slates, about, one, other):
    """The dicts of True from those whose news one tells other, and from all who hear it thereby.

    about are the slates turned about: by them what other tells one comes from just those who hear it.
    """
    return told_from(slates, one, other), told_from(about, other, one)


def is_heard_through(slates, about, one, other, hearers):
    """Whether some hearer hears what one tells other at their meeting; about are the slates turned about."""
    hearing = carried_over(slates, about, one, other)[1]
    return any([hearer in hearing for hearer in hearers])
