"""Threads of meetings, each person's lamp that goes along one, and the one round of all threads."""

from heardsince.calendars import check_calendar, check_many, check_slates
from heardsince.villages import check_person


def thread(village, slates, person):
    """The list of the people on a person's thread, from the person on."""
    check_slates(village, slates)
    check_person(village, person)
    return thread_from(slates, person)


def ends(village, slates):
    """The dict from all people to the end of their thread."""
    check_slates(village, slates)
    return {person: thread_from(slates, person)[-1] for person in village.people()}


def lamps(village, calendar, many):
    """The dict from all people to whose lamp they hold behind the first many meetings."""
    check_calendar(village, calendar)
    check_many(many, len(calendar))
    lamp = {person: person for person in village.people()}
    for one, other in calendar[:many]:
        lamp[one], lamp[other] = lamp[other], lamp[one]
    return lamp


def round_of(village, slates):
    """The list of all people, from the first one of the village on, each ahead of the end of their thread."""
    following = ends(village, slates)
    row = [village.people()[0]]
    while len(row) < len(following):
        row.append(following[row[-1]])
    return row


def sides(village, slates, person):
    """The list of the lists of people behind the doors to a person's friends, as they sit in the round."""
    check_slates(village, slates)
    check_person(village, person)
    row = round_of(village, slates)
    place = row.index(person)
    # from the person's own seat
    row = row[place:] + row[:place]
    found = []
    for friend in slates[person]:
        behind = village.behind(person, friend)
        found.append([one for one in row if one in behind])
    return found


def thread_from(slates, person):
    """The list of the people on a person's thread."""
    row = [person]
    ahead = None
    following = next_behind(slates[person], ahead)
    while following is not None:
        ahead = row[-1]
        row.append(following)
        following = next_behind(slates[following], ahead)
    return row


def next_behind(slate, friend):
    """The one who stands next behind a friend in a slate, the first one behind None; None if there is none."""
    place = 0 if friend is None else slate.index(friend) + 1
    if place == len(slate):
        return None
    return slate[place]
