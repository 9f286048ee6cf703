"""From tables back to slates: JUST ONE of slates and a clash."""

from heardsince.checks import is_table_of
from heardsince.errors import BadTable
from heardsince.villages import check_village


def slates_of_table(village, table):
    """The slates with this table, None if there are none."""
    if table_clash(village, table) is not None:
        return None
    return {person: slate_by_table(village, table, person) for person in village.people()}


def table_clash(village, table):
    """None, or the first thing by which no slates have this table."""
    check_table(village, table)
    heard = {person: {other: True for other in table[person]} for person in village.people()}
    clash = friends_clash(village, heard)
    if clash is None:
        clash = order_clash(village, heard)
    if clash is None:
        clash = ring_clash(village, heard)
    if clash is None:
        clash = far_clash(village, heard)
    return clash


def check_table(village, table):
    """Raises BadVillage, BadTable."""
    check_village(village)
    if not is_table_of(village.people(), table):
        raise BadTable(table)


def slate_by_table(village, table, person):
    """A person's slate by a table without a clash."""
    friends = village.friends(person)
    # of two friends the later one has heard of the one ahead: so their places are of how many of them they have heard
    places = {friend: len([other for other in friends if other in table[friend]]) for friend in friends}
    return sorted(friends, key=lambda one: places[one])


def pairs_in_order(names):
    """The list of all pairs of names, one ahead of the other, by both their places."""
    return [(one, other) for place, one in enumerate(names) for other in names[place + 1:]]


def friends_clash(village, heard):
    """The first friends of whom not both have heard of one another, None if there are none."""
    for one, other in pairs_in_order(village.people()):
        if other in village.friends(one) and not (other in heard[one] and one in heard[other]):
            return ("friends", one, other)
    return None


def order_clash(village, heard):
    """The first two friends of a person of whom both or neither have heard of one another, None if there are none."""
    for person in village.people():
        for x, y in pairs_in_order(village.friends(person)):
            if y in heard[x] and x in heard[y]:
                return ("both", person, x, y)
            if y not in heard[x] and x not in heard[y]:
                return ("neither", person, x, y)
    return None


def ring_clash(village, heard):
    """The first three friends of a person each of whom would be met ahead of the next one, None if there are none."""
    for person in village.people():
        for x, y in pairs_in_order(village.friends(person)):
            z = ring_end(village.friends(person), heard, x, y)
            if z is not None:
                return ("ring", person, x, y, z)
    return None


def ring_end(friends, heard, x, y):
    """The first friend behind x who makes a ring with x and y, None if there is none."""
    if x in heard[y]:
        for z in friends[friends.index(x) + 1:]:
            if y in heard[z] and z in heard[x]:
                return z
    return None


def far_clash(village, heard):
    """The first who has heard of somebody far off otherwise than near ones tell, None if there is none."""
    for one in village.people():
        told = told_by_near(village, heard, one)
        for other in village.people():
            if other in told and told[other] != (other in heard[one]):
                return ("far", one, other)
    return None


def told_by_near(village, heard, one):
    """The dict from those three doors or more from one to whether, as near ones tell, one has heard of them."""
    told = {}
    steps = [(one, friend, True, 1) for friend in village.friends(one)]
    while len(steps) > 0:
        near, here, rises, doors = steps.pop()
        if doors >= 3:
            told[here] = rises
        for further in village.friends(here):
            if further != near:
                steps.append((here, further, rises and further in heard[near], doors + 1))
    return told
