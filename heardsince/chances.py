"""Chances to hear of people, by calendars or by slates, and the means of ledgers."""

from math import factorial

from heardsince.allhearers import check_by, sizes_from
from heardsince.calendarcounts import fraction
from heardsince.checks import first_wrong
from heardsince.refusals import BadKnown
from heardsince.tables import check_some
from heardsince.villages import check_person, doors_inward, inward_from, own_news


def chance(village, by, person, some):
    """The fraction of all calendars, or slates, by which a person has heard of all of some."""
    check_chance(village, by, person, some)
    return (1, one_in(village, by, person, some))


def chance_told(village, by, person, some):
    """The fraction of all calendars, or slates, by which all of some have heard of a person."""
    # slates turned about tell the one from the other
    return chance(village, by, person, some)


def chance_given(village, by, person, some, known):
    """The chance to have heard of all of some, if a person has heard of all of known."""
    check_chance(village, by, person, some)
    index = first_wrong(village.people(), known)
    if index is not None:
        raise BadKnown(index)
    both = list(known) + list(some)
    return fraction(one_in(village, by, person, known), one_in(village, by, person, both))


def mean_ledger(village, by):
    """The dict from people to the means of their numbers in the ledger."""
    check_by(village, by)
    news = own_news(village)
    found = {}
    for person in village.people():
        doors = doors_inward(inward_from(village, person))
        rare = {other: one_in_at(by, doors[other]) for other in doors}
        # the rarest one is so by all the others
        bottom = max(rare.values())
        found[person] = fraction(sum([news[other] * (bottom // rare[other]) for other in doors]), bottom)
    return found


def check_chance(village, by, person, some):
    """Raises BadVillage, BadBy, NoPerson, BadSome."""
    check_by(village, by)
    check_person(village, person)
    check_some(village, some)


def one_in(village, by, person, some):
    """In one of how many calendars, or slates, a person has heard of all of some."""
    inward = inward_from(village, person)
    between = {}
    for one in some:
        here = one
        while here != person:
            between[here] = True
            here = inward[here]
    # in the order of inward near ones stand first
    among = {one: inward[one] for one in inward if one == person or one in between}
    if by == "calendars":
        sizes = sizes_from(among)
        return product_of([sizes[one] for one in between])
    nearer = list(among.values())
    return product_of([1 + nearer.count(one) for one in between])


def one_in_at(by, doors):
    """In one of how many calendars, or slates, somebody so many doors away is heard of."""
    if by == "calendars":
        return factorial(doors)
    return 1 << max(0, doors - 1)


def product_of(numbers):
    """The product of a list of numbers."""
    many = 1
    for number in numbers:
        many *= number
    return many
