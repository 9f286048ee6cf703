"""Calendars, the order of all meetings, and slates, the order of each person's own; who has heard of whom by them."""

from heardsince.checks import is_all_of, is_dict_of, is_list, is_number
from heardsince.errors import BadCalendar, BadMany, BadSlates
from heardsince.villages import check_person, check_village


def is_calendar(village, thing):
    """Whether a thing is a list of all meetings, each once."""
    check_village(village)
    return calendar_places(village, thing) is not None


def is_slates(village, thing):
    """Whether a thing is a dict from just all people to lists of just all their friends."""
    check_village(village)
    if not is_dict_of(village.people(), thing):
        return False
    return all([is_all_of(village.friends(person), thing[person]) for person in village.people()])


def slates_of(village, calendar):
    """The slates of a calendar."""
    check_calendar(village, calendar)
    return rows_of(village.people(), calendar)


def calendar_of(village, slates):
    """The first calendar with these slates."""
    check_slates(village, slates)
    return meetings_in_order(village.ties(), slates, [])


def are_alike(village, one, other):
    """Whether two calendars have the same slates."""
    return slates_of(village, one) == slates_of(village, other)


def has_heard(village, slates, one, other):
    """Whether, by slates, one has heard of other."""
    check_slates(village, slates)
    check_person(village, one)
    check_person(village, other)
    return other in heard_from(slates, one)


def heard_of(village, slates, person):
    """The list of those of whom a person has heard, in the village's order."""
    check_slates(village, slates)
    check_person(village, person)
    heard = heard_from(slates, person)
    return [other for other in village.people() if other in heard]


def heard_by(village, slates, person):
    """The list of those who have heard of a person, in the village's order."""
    check_slates(village, slates)
    check_person(village, person)
    return [one for one in village.people() if person in heard_from(slates, one)]


def heard_ahead(village, calendar, many):
    """The dict from people to the lists of those of whom they have heard behind the first so many meetings."""
    check_calendar(village, calendar)
    check_many(many, len(calendar))
    people = village.people()
    heard = {person: [person] for person in people}
    for one, other in calendar[:many]:
        # there are no rings, so the two have heard of nobody in common
        both = heard[one] + heard[other]
        heard[one] = both
        heard[other] = both
    return {person: [other for other in people if other in heard[person]] for person in people}


def check_calendar(village, calendar):
    """Raises BadVillage, BadCalendar."""
    if not is_calendar(village, calendar):
        raise BadCalendar(calendar)


def check_slates(village, slates):
    """Raises BadVillage, BadSlates."""
    if not is_slates(village, slates):
        raise BadSlates(slates)


def check_many(many, most):
    """Raises BadMany for no number of at most as many as there are."""
    if not is_number(many) or many > most:
        raise BadMany(many)


def calendar_places(village, thing):
    """The places in village.ties() of the meetings of a calendar, None for what is no calendar."""
    ties = village.ties()
    if not is_list(thing) or len(thing) != len(ties):
        return None
    places = tie_places(ties)
    found = [meeting_place(places, meeting) for meeting in thing]
    if None in found or sorted(found) != list(range(len(ties))):
        return None
    return found


def meeting_place(places, thing):
    """The place of a meeting, either way round, by tie_places; None for what is no meeting."""
    if not is_list(thing) or len(thing) != 2 or not all([isinstance(part, str) for part in thing]):
        return None
    return places.get((thing[0], thing[1]), None)


def tie_places(ties):
    """The dict from ties, either way round, to their places."""
    places = {}
    for place, (one, other) in enumerate(ties):
        places[(one, other)] = place
        places[(other, one)] = place
    return places


def rows_of(people, meetings):
    """The dict from people to the lists of those whom they meet, in order, by these meetings."""
    rows = {person: [] for person in people}
    for one, other in meetings:
        rows[one].append(other)
        rows[other].append(one)
    return rows


def meetings_in_order(ties, slates, start):
    """The first row of all meetings of slates, which may be begun ones, that has start as its beginning."""
    row = list(start)
    turns = turns_behind(slates, row)
    ready = ready_meetings(ties, slates, turns)
    while len(ready) > 0:
        row.append(ready[0])
        for person in ready[0]:
            turns[person] += 1
        ready = ready_meetings(ties, slates, turns)
    return row


def turns_behind(slates, meetings):
    """The dict from people to how many meetings they have had behind these."""
    turns = {person: 0 for person in slates}
    for one, other in meetings:
        turns[one] += 1
        turns[other] += 1
    return turns


def ready_meetings(ties, slates, turns):
    """The list of the ties whose friends both have one another next, behind so many turns."""
    return [(one, other) for one, other in ties
            if has_next(slates[one], turns[one], other) and has_next(slates[other], turns[other], one)]


def has_next(slate, turn, friend):
    """Whether a friend stands at a turn of a slate."""
    return turn < len(slate) and slate[turn] == friend


def heard_from(slates, person):
    """The dict of True from those of whom a person has heard, by slates, which may be begun ones."""
    return heard_by_way_of(slates, person, slates[person])


def told_from(slates, one, other):
    """The dict of True from those whose news one tells other at their meeting."""
    slate = slates[one]
    # only what was told to one ahead of the meeting with other could go on to other
    return heard_by_way_of(slates, one, slate[:slate.index(other)])


def heard_by_way_of(slates, person, friends):
    """The dict of True from a person and those of whom the person has heard from some friends."""
    heard = {person: True}
    steps = [(person, friend) for friend in friends]
    while len(steps) > 0:
        near, one = steps.pop()
        heard[one] = True
        slate = slates[one]
        for further in slate[:slate.index(near)]:
            steps.append((one, further))
    return heard
