"""Tables of who has heard of whom, and all slates by numbers."""

from math import factorial

from heardsince.calendars import check_slates, heard_of
from heardsince.checks import first_wrong, is_number, is_table_of
from heardsince.clashes import table_clash
from heardsince.errors import BadNumber, BadSome
from heardsince.villages import check_person, check_village, inward_from


def table(village, slates):
    """The dict from all people to the lists of those of whom they have heard."""
    check_slates(village, slates)
    return {person: heard_of(village, slates, person) for person in village.people()}


def is_table(village, thing):
    """Whether a thing is the table of some slates, its lists in whatever order."""
    check_village(village)
    return is_table_of(village.people(), thing) and table_clash(village, thing) is None


def count_slates(village):
    """How many slates there are."""
    check_village(village)
    many = 1
    for person in village.people():
        many *= factorial(len(village.friends(person)))
    return many


def slates_at(village, number):
    """The slates with a number, from 0 on, as slates compare."""
    many = count_slates(village)
    if not is_number(number) or number >= many:
        raise BadNumber(number)
    rows = {}
    left = number
    # the first person's slate weighs most, so numbers are taken apart from the last one on
    for person in reversed(village.people()):
        friends = village.friends(person)
        left, place = divmod(left, factorial(len(friends)))
        rows[person] = row_at(friends, place)
    return {person: rows[person] for person in village.people()}


def slates_number(village, slates):
    """The number of slates, from 0 on, as slates compare."""
    check_slates(village, slates)
    number = 0
    for person in village.people():
        friends = village.friends(person)
        number = number * factorial(len(friends)) + row_number(friends, slates[person])
    return number


def turned(village, slates):
    """The slates with each list turned about."""
    check_slates(village, slates)
    return {person: list(reversed(slates[person])) for person in village.people()}


def slates_hearing(village, person, some):
    """How many slates there are by which a person has heard of just some."""
    check_village(village)
    check_person(village, person)
    check_some(village, some)
    if not all([one in some for one in [person] + village.friends(person)]) or not hang_together(village, some):
        return 0
    inward = inward_from(village, person)
    many = 1
    for one in village.people():
        further = [friend for friend in village.friends(one) if friend != inward[one]]
        if one in some:
            inside = len([friend for friend in further if friend in some])
            many *= factorial(inside) * factorial(len(further) - inside)
        else:
            many *= factorial(len(village.friends(one)))
    return many


def check_some(village, some):
    """Raises BadSome for what is no list of unlike people."""
    index = first_wrong(village.people(), some)
    if index is not None:
        raise BadSome(index)


def hang_together(village, some):
    """Whether all on the ways between some people, one or more, are among them."""
    # without rings, people are joined among themselves just if their ties are one fewer than they
    inside = [tie for tie in village.ties() if tie[0] in some and tie[1] in some]
    return len(inside) == len(some) - 1


def row_at(names, place):
    """The row of all names that has this place, from 0 on, among all their rows as they compare."""
    left = list(names)
    row = []
    while len(left) > 0:
        at, place = divmod(place, factorial(len(left) - 1))
        row.append(left.pop(at))
    return row


def row_number(names, row):
    """The place of a row of all names among all their rows as they compare."""
    left = list(names)
    place = 0
    for name in row:
        at = left.index(name)
        place = place * len(left) + at
        left.pop(at)
    return place
