"""Cuts that cost as little as can be, and paid rumours, of which as many go as that."""

from heardsince.calendars import tie_places
from heardsince.checks import is_integer, is_list
from heardsince.cuts import check_sides, cut_by_rooms, is_rumour, net_of, rumours_by_rooms
from heardsince.errors import BadCosts
from heardsince.villages import first_bad_amount


def cheapest_cut(village, slates, hearers, tellers, costs):
    """The pair (cost, cut) of the least that a cut's meetings cost together, and such a cut."""
    check_prices(village, slates, hearers, tellers, costs)
    cut = cut_by_rooms(village, net_of(village, slates, hearers, tellers, costs))
    return sum([cost for tie, cost in zip(village.ties(), costs) if tie in cut]), cut


def paid_rumours(village, slates, hearers, tellers, costs):
    """A list of pairs (rumour, amount), through each door at most its cost together, of the greatest sum of amounts."""
    check_prices(village, slates, hearers, tellers, costs)
    return rumours_by_rooms(village, slates, hearers, tellers, costs)


def are_paid(village, slates, hearers, tellers, costs, thing):
    """Whether a thing is a list of pairs (rumour, amount), rumours unlike, through each door at most its cost together.
    """
    check_prices(village, slates, hearers, tellers, costs)
    if not is_list(thing) or not all([is_paid(village, slates, hearers, tellers, pair) for pair in thing]):
        return False
    ends = [(rumour[0], rumour[-1]) for rumour, amount in thing]
    if len(set(ends)) < len(ends):
        return False
    places = tie_places(village.ties())
    left = list(costs)
    for rumour, amount in thing:
        for door in zip(rumour, rumour[1:]):
            left[places[door]] -= amount
    return all([cost >= 0 for cost in left])


def check_prices(village, slates, hearers, tellers, costs):
    """Raises BadVillage, BadSlates, BadLot of hearers, of tellers, BadCosts."""
    check_sides(village, slates, hearers, tellers)
    index = first_bad_amount(len(village.ties()), costs, 1)
    if index is not None:
        raise BadCosts(index)


def is_paid(village, slates, hearers, tellers, thing):
    """Whether a thing is a pair of a rumour and an integer from 1 on."""
    if not is_list(thing) or len(thing) != 2 or not is_integer(thing[1]) or thing[1] < 1:
        return False
    return is_rumour(village, slates, hearers, tellers, thing[0])
