"""Sayings of who has heard of whom, or has not, and orders of friends by them: JUST ONE of slates and a fault."""

from heardsince.calendars import check_slates, heard_from
from heardsince.checks import is_list, is_one_of
from heardsince.refusals import BadSayings
from heardsince.villages import check_friends, check_village


def fits(village, slates, sayings):
    """Whether by slates all sayings are so."""
    check_slates(village, slates)
    check_sayings(village, sayings)
    return all([(other in heard_from(slates, one)) == heard for one, other, heard in sayings])


def orders_of(village, sayings):
    """The dict from all people to the lists of the pairs (x, y) of friends of whom sayings say: x ahead of y."""
    said = said_by(village, sayings)
    return {person: [(x, y) for x in village.friends(person) for y in village.friends(person)
                     if (person, x, y) in said]
            for person in village.people()}


def sayers(village, sayings, person, x, y):
    """The list of the indexes of the sayings that say that a person meets x ahead of y."""
    said = said_by(village, sayings)
    check_friends(village, person, x)
    check_friends(village, person, y)
    return said.get((person, x, y), [])


def fault_of(village, sayings):
    """None, or the first saying that nobody can make good alone, or the first person with a ring of friends."""
    orders = orders_of(village, sayings)
    index = first_own(village, sayings)
    if index is not None:
        return ("own", index)
    for person in village.people():
        ring = shortest_ring(village.friends(person), orders[person])
        if ring is not None:
            return ("ring", person, ring)
    return None


def slates_fit(village, sayings):
    """The first slates by which all sayings but far ones are so, None if there are none."""
    if fault_of(village, sayings) is not None:
        return None
    orders = orders_of(village, sayings)
    return {person: first_row(village.friends(person), orders[person]) for person in village.people()}


def way_of_orders(village, sayings, person, x, y):
    """The shortest list of friends from x to y, each ahead of the next one by the orders, None if there is none."""
    orders = orders_of(village, sayings)
    check_friends(village, person, x)
    check_friends(village, person, y)
    return shortest_row(village.friends(person), orders[person], x, y)


def check_sayings(village, sayings):
    """Raises BadVillage, BadSayings."""
    check_village(village)
    if not is_list(sayings):
        raise BadSayings(0)
    people = village.people()
    for index, saying in enumerate(sayings):
        if not is_saying(people, saying):
            raise BadSayings(index)


def is_saying(people, thing):
    """Whether a thing is a triple of two people and a bool."""
    if not is_list(thing) or len(thing) != 3 or not is_one_of(people, thing[0]) or not is_one_of(people, thing[1]):
        return False
    return thing[2] is True or thing[2] is False


def said_by(village, sayings):
    """The dict from triples (person, x, y) to the lists of indexes of those who say it; raises BadVillage, BadSayings.

    Far sayings say nothing.
    """
    check_sayings(village, sayings)
    said = {}
    for index, (one, other, heard) in enumerate(sayings):
        way = village.way(other, one)
        if heard:
            for ahead, person, behind in zip(way, way[1:], way[2:]):
                said[(person, ahead, behind)] = said.get((person, ahead, behind), []) + [index]
        elif len(way) == 3:
            said[(way[1], one, other)] = said.get((way[1], one, other), []) + [index]
    return said


def first_own(village, sayings):
    """The index of the first saying that one has not heard of oneself or of a friend, None if there is none."""
    for index, (one, other, heard) in enumerate(sayings):
        if not heard and (one == other or other in village.friends(one)):
            return index
    return None


def shortest_row(friends, pairs, x, y):
    """A shortest list of friends from x to y, each ahead of the next one by pairs, None if there is none."""
    came = {x: None}
    near = [x]
    while len(near) > 0 and y not in came:
        further = []
        for here in near:
            for one in friends:
                if one not in came and (here, one) in pairs:
                    came[one] = here
                    further.append(one)
        near = further
    if y not in came:
        return None
    row = [y]
    while came[row[-1]] is not None:
        row.append(came[row[-1]])
    return list(reversed(row))


def shortest_ring(friends, pairs):
    """A shortest list of friends each ahead of the next one by pairs, the last one of the first one; or None."""
    best = None
    for last, first in pairs:
        row = shortest_row(friends, pairs, first, last)
        if row is not None and (best is None or len(row) < len(best)):
            best = row
    return best


def first_row(friends, pairs):
    """The first row of all friends, as they stand, by which pairs, without a ring, have one ahead of the other."""
    left = list(friends)
    row = []
    while len(left) > 0:
        barred = {behind: True for ahead, behind in pairs if ahead in left}
        row.append([friend for friend in left if friend not in barred][0])
        left.remove(row[-1])
    return row
