"""A meeting put last, and who hears of whom only then, or no more."""

from heardsince.calendars import check_slates, heard_from
from heardsince.villages import check_friends


def put_last(village, slates, one, other):
    """The slates if two friends meet behind all other meetings."""
    check_slates(village, slates)
    check_friends(village, one, other)
    found = {person: list(slates[person]) for person in village.people()}
    for person, friend in ((one, other), (other, one)):
        found[person].remove(friend)
        found[person].append(friend)
    return found


def changed_last(village, slates, one, other):
    """The pair of lists of pairs (hearer, teller): who hears of whom only if two friends meet last, who only if not."""
    last = put_last(village, slates, one, other)
    return heard_only(village, last, slates), heard_only(village, slates, last)


def heard_only(village, slates, others):
    """The list of the pairs (hearer, teller) of those who hear of one another by slates, and do not by others."""
    people = village.people()
    found = []
    for hearer in people:
        heard = heard_from(slates, hearer)
        known = heard_from(others, hearer)
        for teller in people:
            if teller in heard and teller not in known:
                found.append((hearer, teller))
    return found
