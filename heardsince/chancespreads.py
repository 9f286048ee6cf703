"""The chances to hear of just some people, and of just so many.

By calendars each meeting has a date of its own from 0 to 1. SUMS of powers of a date t are lists of integers: at each
place, from 0 on, how many times t to this power, divided by the factorial of the place. So they stay integers.
"""

from math import comb, factorial

from heardsince.calendarcounts import fraction
from heardsince.allhearers import check_by
from heardsince.chances import check_chance
from heardsince.tables import count_slates, hang_together, slates_hearing
from heardsince.tellings import friends_behind, number_counts
from heardsince.villages import Village, check_person

# 1 - t
LATER = (1, -1)


def chance_just(village, by, person, some):
    """The fraction of all calendars, or slates, by which a person has heard of just some."""
    check_chance(village, by, person, some)
    if by == "slates":
        return fraction(slates_hearing(village, person, some), count_slates(village))
    if not all([one in some for one in [person] + village.friends(person)]) or not hang_together(village, some):
        return (0, 1)
    behind = friends_behind(village, person)
    powers = {}
    for one in behind:
        powers[one] = [1]
        for friend in behind[one]:
            powers[one] = times(powers[one], summed(powers[friend]) if friend in some else list(LATER))
    return at_one(powers[person])


def spread(village, by, person):
    """The dict, ascending, from numbers to the chances above 0 that a person has heard of just so many people."""
    check_by(village, by)
    check_person(village, person)
    if by == "slates":
        alike = Village(village.people(), village.ties(), [1 for one in village.people()])
        counts = number_counts(alike, person)
        return {many: fraction(counts[many], count_slates(village)) for many in counts}
    behind = friends_behind(village, person)
    powers = {}
    for one in behind:
        powers[one] = powers_by_many(one == person, [powers[friend] for friend in behind[one]])
    return {many: at_one(powers[person][many]) for many in sorted(powers[person])}


def powers_by_many(is_middle, rows):
    """The dict from how many are heard of by way of somebody, this one among them, to sums; rows are those behind.

    In the middle all friends are heard of, else those who are met behind the meeting towards it are not.
    """
    found = {1: [1]}
    for row in rows:
        parts = {many: summed(row[many]) for many in row}
        if not is_middle:
            parts[0] = list(LATER)
        grown = {}
        for many, powers in found.items():
            for more, part in parts.items():
                grown[many + more] = added(grown.get(many + more, []), times(powers, part))
        found = grown
    return found


def times(one, other):
    """The product of two sums."""
    found = [0 for place in range(len(one) + len(other) - 1)]
    for place, many in enumerate(one):
        for at, more in enumerate(other):
            found[place + at] += many * more * comb(place + at, at)
    return found


def added(one, other):
    """Two sums together."""
    longer = max(len(one), len(other))
    return [(one[place] if place < len(one) else 0) + (other[place] if place < len(other) else 0)
            for place in range(longer)]


def summed(powers):
    """The integral of a sum from 0 to t."""
    return [0] + powers


def at_one(powers):
    """What a sum is for t as 1, a fraction."""
    bottom = factorial(len(powers))
    return fraction(sum([many * (bottom // factorial(place)) for place, many in enumerate(powers)]), bottom)
