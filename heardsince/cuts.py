"""Cuts, without which no hearer hears of any teller, and rumours apart: JUST ONE for each number.

News goes from a meeting on to those that one of both people holds later. In the net of this the place of each meeting
is followed by another one, and between both is as much room as it costs to cancel the meeting.
"""

from heardsince.calendars import check_slates, heard_from, tie_places
from heardsince.cancelled import first_bad_meeting, slates_without
from heardsince.checks import is_list, is_some_of
from heardsince.flows import filled, reached_with_room, rows_through
from heardsince.hearts import check_full_lot, check_one_or_more
from heardsince.refusals import BadKept

START = "start"
GOAL = "goal"


def fewest_cut(village, slates, hearers, tellers, kept):
    """A cut of as few meetings as can be, none of them kept, None if there is none."""
    if kept_rumour(village, slates, hearers, tellers, kept) is not None:
        return None
    rooms = rooms_by_kept(village, kept)
    return cut_by_rooms(village, net_of(village, slates, hearers, tellers, rooms))


def rumours_apart(village, slates, hearers, tellers, kept):
    """A list of as many rumours as can be no two of which share a door that is not kept, None if there is no most."""
    if kept_rumour(village, slates, hearers, tellers, kept) is not None:
        return None
    rooms = rooms_by_kept(village, kept)
    # each row has a meeting that is not kept, so that one rumour alone goes by it
    return [rumour for rumour, amount in rumours_by_rooms(village, slates, hearers, tellers, rooms)]


def kept_rumour(village, slates, hearers, tellers, kept):
    """A rumour all of whose doors are kept, None if there is none."""
    check_kept(village, slates, hearers, tellers, kept)
    held = tie_places([(one, other) for one, other in kept])
    for teller, hearer in rumour_ends(village, slates, hearers, tellers):
        way = village.way(teller, hearer)
        if all([door in held for door in zip(way, way[1:])]):
            return way
    return None


def is_cut(village, slates, hearers, tellers, kept, thing):
    """Whether a thing is a list of unlike meetings, none of them kept, without which no hearer has heard of any teller.
    """
    check_kept(village, slates, hearers, tellers, kept)
    if first_bad_meeting(village, thing) is not None:
        return False
    held = tie_places([(one, other) for one, other in kept])
    if any([(one, other) in held for one, other in thing]):
        return False
    left = slates_without(village, slates, thing)
    return len(rumour_ends(village, left, hearers, tellers)) == 0


def are_apart(village, slates, hearers, tellers, kept, thing):
    """Whether a thing is a list of rumours no two of which share a door that is not kept."""
    check_kept(village, slates, hearers, tellers, kept)
    if not is_list(thing) or not all([is_rumour(village, slates, hearers, tellers, row) for row in thing]):
        return False
    ties = village.ties()
    held = tie_places([(one, other) for one, other in kept])
    places = tie_places(ties)
    # the places of all doors that are not kept
    doors = [places[door] for row in thing for door in zip(row, row[1:]) if door not in held]
    return len(set(doors)) == len(doors)


def check_sides(village, slates, hearers, tellers):
    """Raises BadVillage, BadSlates, BadLot of hearers, of tellers, who must be none of the hearers."""
    check_slates(village, slates)
    check_full_lot(village, hearers)
    check_one_or_more([person for person in village.people() if person not in hearers], tellers)


def check_kept(village, slates, hearers, tellers, kept):
    """Raises BadVillage, BadSlates, BadLot of hearers, of tellers, BadKept."""
    check_sides(village, slates, hearers, tellers)
    index = first_bad_meeting(village, kept)
    if index is not None:
        raise BadKept(index)


def rumour_ends(village, slates, hearers, tellers):
    """The list of the pairs (teller, hearer) of whom the hearer has heard of the teller, in the village's order.

    Slates may be begun ones.
    """
    people = village.people()
    found = []
    for hearer in people:
        if hearer in hearers:
            heard = heard_from(slates, hearer)
            for teller in people:
                if teller in tellers and teller in heard:
                    found.append((teller, hearer))
    return found


def is_rumour(village, slates, hearers, tellers, thing):
    """Whether a thing is a way that rises from a teller to a hearer."""
    if not is_some_of(village.people(), thing) or len(thing) == 0:
        return False
    if thing[0] not in tellers or thing[-1] not in hearers:
        return False
    return list(thing) == village.way(thing[0], thing[-1]) and thing[0] in heard_from(slates, thing[-1])


def rooms_by_kept(village, kept):
    """The list of the rooms of the ties: 1, and for those that are kept more than for all others together."""
    ties = village.ties()
    held = tie_places([(one, other) for one, other in kept])
    return [len(ties) + 1 if tie in held else 1 for tie in ties]


def net_of(village, slates, hearers, tellers, rooms):
    """The net by which news goes from tellers to hearers; the places of a tie are twice its own place, and one more."""
    ties = village.ties()
    places = tie_places(ties)
    every = sum(rooms) + 1
    net = {START: {}, GOAL: {}}
    for place, tie in enumerate(ties):
        net[2 * place] = {2 * place + 1: rooms[place]}
        net[2 * place + 1] = {}
        if any([person in tellers for person in tie]):
            net[START][2 * place] = every
        if any([person in hearers for person in tie]):
            net[2 * place + 1][GOAL] = every
    for person in village.people():
        row = [places[(person, friend)] for friend in slates[person]]
        for at, place in enumerate(row):
            for later in row[at + 1:]:
                net[2 * place + 1][2 * later] = every
    return net


def cut_by_rooms(village, net):
    """The list of the ties at which as much as can go through a net is stopped."""
    reached = reached_with_room(net, filled(net, START, GOAL), START)
    return [tie for place, tie in enumerate(village.ties()) if 2 * place in reached and 2 * place + 1 not in reached]


def rumours_by_rooms(village, slates, hearers, tellers, rooms):
    """The list of pairs (rumour, amount), rumours unlike, by which as much goes as can be."""
    ties = village.ties()
    net = net_of(village, slates, hearers, tellers, rooms)
    amounts = {}
    for row, amount in rows_through(filled(net, START, GOAL), START, GOAL):
        first = ties[row[1] // 2]
        last = ties[row[-2] // 2]
        # a row may have more meetings than the way between its ends, which has them in the same order
        ends = ([person for person in first if person in tellers][0],
                [person for person in last if person in hearers][0])
        amounts[ends] = amounts.get(ends, 0) + amount
    return [(village.way(teller, hearer), amounts[(teller, hearer)]) for teller, hearer in amounts]
