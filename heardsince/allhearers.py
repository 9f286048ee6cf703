"""Who hears of all, of whom all hear, and in how many calendars, or slates, it is so."""

from math import factorial

from heardsince.calendars import check_slates, heard_from
from heardsince.checks import is_one_of
from heardsince.refusals import BadBy
from heardsince.tables import turned
from heardsince.villages import check_friends, check_person, check_village, inward_from

WAYS = ("calendars", "slates")


def hear_all(village, slates):
    """The list of those who have heard of all."""
    check_slates(village, slates)
    return [person for person in village.people() if len(heard_from(slates, person)) == len(slates)]


def told_all(village, slates):
    """The list of those of whom all have heard."""
    # turned about, who has been heard of has heard
    return hear_all(village, turned(village, slates))


def slates_to(village, person):
    """Slates by which a person hears of all."""
    check_village(village)
    check_person(village, person)
    inward = inward_from(village, person)
    found = {}
    for one in village.people():
        found[one] = [friend for friend in village.friends(one) if friend != inward[one]]
        if one != person:
            found[one].append(inward[one])
    return found


def count_hearing(village, by, person):
    """In how many calendars, or slates, a person hears of all."""
    check_by(village, by)
    check_person(village, person)
    if by == "calendars":
        return calendars_toward(village, [person])
    # all others have the friend towards the person last
    return factorial(len(village.friends(person))) * rows_with_one_fixed(village, [person])


def count_both(village, by, one, other):
    """In how many calendars, or slates, both of two friends hear of all."""
    check_by(village, by)
    check_friends(village, one, other)
    if by == "calendars":
        return calendars_toward(village, [one, other])
    return rows_with_one_fixed(village, [])


def count_somebody(village, by):
    """In how many calendars, or slates, anybody hears of all."""
    check_by(village, by)
    # where more than one hear of all, they are two, and friends
    return (sum([count_hearing(village, by, person) for person in village.people()])
            - sum([count_both(village, by, one, other) for one, other in village.ties()]))


def check_by(village, by):
    """Raises BadVillage, BadBy."""
    check_village(village)
    if not is_one_of(WAYS, by):
        raise BadBy(by)


def sizes_from(inward):
    """The dict from all people to how many are behind them, they among them, seen from the middle of inward."""
    sizes = {person: 1 for person in inward}
    for person in reversed(list(inward)):
        # near ones stand first, so all behind a person are counted by now
        if inward[person] is not None:
            sizes[inward[person]] += sizes[person]
    return sizes


def calendars_toward(village, middle):
    """In how many calendars each meeting is held behind all farther from the middle, a person or two friends."""
    sizes = sizes_from(inward_from(village, middle[0]))
    many = factorial(len(village.ties()))
    if len(middle) == 2:
        many //= len(village.ties())
    for person in sizes:
        if person not in middle:
            many //= sizes[person]
    return many


def rows_with_one_fixed(village, but):
    """In how many ways all but some people can meet their friends, one of them being told."""
    many = 1
    for person in village.people():
        if person not in but:
            many *= factorial(len(village.friends(person)) - 1)
    return many
