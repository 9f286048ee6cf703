"""What the tests of cuts share: all rumours, all cuts, and the most that can go, by going through all."""

import itertools

from tests import helper


def rumours_by_hand(village, slates, hearers, tellers):
    """All ways that rise from a teller to a hearer."""
    ways = [helper.way(village, teller, hearer) for teller in tellers for hearer in hearers]
    return [way for way in ways if helper.rises(slates, way)]


def ties_of(way):
    return {frozenset(door) for door in helper.doors(way)}


def stops(cut, rumours):
    """Whether a lot of meetings has one of each rumour."""
    gone = {frozenset(tie) for tie in cut}
    return all(gone & ties_of(way) for way in rumours)


def all_cuts(village, rumours, kept):
    """All lists of meetings, none of them kept, that stop all rumours."""
    held = {frozenset(tie) for tie in kept}
    left = [tie for tie in village.ties() if frozenset(tie) not in held]
    return [cut for cut in helper.subsets(left) if stops(cut, rumours)]


def most_apart(rumours, kept):
    """How many rumours there can be no two of which share a door that is not kept."""
    held = {frozenset(tie) for tie in kept}
    rows = [ties_of(way) - held for way in rumours]
    most = 0
    for many in range(len(rows), 0, -1):
        for some in itertools.combinations(rows, many):
            if sum(map(len, some)) == len(set().union(*some)):
                return many
    return most


def drawn_sides(village, drawn):
    """Some hearers and tellers without a common person."""
    people = drawn.sample(village.people(), len(village.people()))
    many = drawn.randint(2, len(people))
    few = drawn.randint(1, many - 1)
    return people[:few], people[few:many]
