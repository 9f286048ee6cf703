"""How many slates fit sayings, in what part of them one has heard of another, and sayings that no slates fit."""

from itertools import combinations
from math import perm

from heardsince.calendarcounts import fraction
from heardsince.calendars import heard_from
from heardsince.sayings import check_sayings, first_own, orders_of
from heardsince.tables import count_slates, slates_at
from heardsince.villages import check_two


def count_fit(village, sayings):
    """How many slates there are by which sayings but far ones are so."""
    orders = orders_of(village, sayings)
    if first_own(village, sayings) is not None:
        return 0
    many = 1
    for person in village.people():
        many *= count_rows(village.friends(person), orders[person])
    return many


def chance_fit(village, sayings, one, other):
    """In what part of the slates of count_fit one has heard of other, a fraction, None if there are none."""
    orders = orders_of(village, sayings)
    check_two(village, one, other)
    if count_fit(village, sayings) == 0:
        return None
    top = 1
    bottom = 1
    way = village.way(other, one)
    for ahead, person, behind in zip(way, way[1:], way[2:]):
        friends = village.friends(person)
        top *= count_rows(friends, orders[person] + [(ahead, behind)])
        bottom *= count_rows(friends, orders[person])
    return fraction(top, bottom)


def slates_of_all(village, sayings):
    """The first slates that fit, far sayings and all, None if there are none."""
    every = bits_by_number(village, sayings)
    if all_bits(sayings) not in every:
        return None
    return slates_at(village, every.index(all_bits(sayings)))


def count_of_all(village, sayings):
    """How many slates fit, far sayings and all."""
    return bits_by_number(village, sayings).count(all_bits(sayings))


def clash_of(village, sayings):
    """None, or the first of the shortest lists of indexes of sayings that no slates fit."""
    unlike = sorted(set(bits_by_number(village, sayings)))
    if all_bits(sayings) in unlike:
        return None
    for many in range(1, len(sayings) + 1):
        for some in combinations(range(len(sayings)), many):
            wanted = sum([1 << index for index in some])
            if not any([bits & wanted == wanted for bits in unlike]):
                return list(some)
    return None


def count_rows(friends, pairs):
    """How many rows of all friends there are by which pairs have one ahead of the other."""
    bound = [friend for friend in friends if any([friend in pair for pair in pairs])]
    # by the bits of those who stand in the row, how many rows of them there are
    rows = {0: 1}
    wanted = [sum([1 << place for place, ahead in enumerate(bound) if (ahead, friend) in pairs]) for friend in bound]
    for _ in bound:
        grown = {}
        for bits, many in rows.items():
            for place in range(len(bound)):
                if bits & (1 << place) == 0 and bits & wanted[place] == wanted[place]:
                    longer = bits | (1 << place)
                    grown[longer] = grown.get(longer, 0) + many
        rows = grown
    # all others stand anywhere among these
    return sum(rows.values()) * perm(len(friends), len(friends) - len(bound))


def all_bits(sayings):
    """The bits of all sayings."""
    return (1 << len(sayings)) - 1


def bits_by_number(village, sayings):
    """The list, by numbers of slates, of the bits of those sayings that are so; raises BadVillage, BadSayings."""
    check_sayings(village, sayings)
    found = []
    for number in range(count_slates(village)):
        slates = slates_at(village, number)
        heard_by_one = {one: heard_from(slates, one) for one, other, heard in sayings}
        found.append(sum([1 << index for index, (one, other, heard) in enumerate(sayings)
                          if (other in heard_by_one[one]) == heard]))
    return found
