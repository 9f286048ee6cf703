"""Rounds: one calendar that is held again and again; falls of ways, and what is heard behind so many rounds."""

from heardsince.calendars import check_slates
from heardsince.checks import is_integer
from heardsince.errors import BadRounds
from heardsince.villages import check_person, check_two, inward_from, own_news


def falls(village, slates, one, other):
    """How many falls the way from other to one has."""
    return max(0, heard_in(village, slates, one, other) - 1)


def heard_in(village, slates, one, other):
    """The number of rounds behind which one has first heard of other."""
    check_slates(village, slates)
    check_two(village, one, other)
    return rounds_from(village, slates, other)[one]


def table_behind(village, slates, rounds):
    """The dict from people to the lists of those of whom they have heard behind so many rounds."""
    check_slates(village, slates)
    check_rounds(rounds, 0)
    people = village.people()
    heard = rounds_from_all(village, slates)
    return {one: [other for other in people if heard[other][one] <= rounds] for one in people}


def ledger_behind(village, slates, rounds):
    """The dict from people to how many news they have heard behind so many rounds."""
    heard = table_behind(village, slates, rounds)
    news = own_news(village)
    return {person: sum([news[other] for other in heard[person]]) for person in heard}


def rounds_of(village, slates, person):
    """The number of rounds behind which a person has first heard of all."""
    check_slates(village, slates)
    check_person(village, person)
    heard = rounds_from_all(village, slates)
    return max([heard[other][person] for other in heard])


def rounds_for(village, slates):
    """The number of rounds behind which all have first heard of all."""
    check_slates(village, slates)
    heard = rounds_from_all(village, slates)
    return max([max(heard[other].values()) for other in heard])


def last_to_hear(village, slates):
    """The first pair (one, other) with the greatest number of rounds; None if there is one person alone."""
    check_slates(village, slates)
    people = village.people()
    heard = rounds_from_all(village, slates)
    most = 0
    last = None
    for one in people:
        for other in people:
            if heard[other][one] > most:
                most = heard[other][one]
                last = (one, other)
    return last


def check_rounds(rounds, least):
    """Raises BadRounds for what is no integer from the least on."""
    if not is_integer(rounds) or rounds < least:
        raise BadRounds(rounds)


def rounds_from(village, slates, other):
    """The dict from all people, near ones first, to the number of rounds behind which they first heard of other."""
    inward = inward_from(village, other)
    rounds = {}
    for one in inward:
        near = inward[one]
        if near is None:
            rounds[one] = 0
        elif near == other:
            rounds[one] = 1
        else:
            slate = slates[near]
            # where the next door is held ahead it has to wait for another round
            rounds[one] = rounds[near] + (1 if slate.index(one) < slate.index(inward[near]) else 0)
    return rounds


def rounds_from_all(village, slates):
    """The dict from all people to what rounds_from tells of them."""
    return {other: rounds_from(village, slates, other) for other in village.people()}
