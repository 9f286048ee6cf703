"""Slates by which all hear of all within so many rounds, JUST ONE of them and a way against them; the nearest ones."""

from heardsince.calendars import check_slates
from heardsince.hearts import heart_way, is_heart_way, least_rounds_for, slates_for
from heardsince.rounds import check_rounds, rounds_for
from heardsince.slaterows import copied, slate_distance
from heardsince.tables import count_slates, slates_at
from heardsince.villages import check_village


def slates_within(village, rounds):
    """Slates by which all have heard of all behind so many rounds, None if there are none."""
    check_village(village)
    return slates_for(village, village.people(), village.people(), rounds)


def way_against(village, rounds):
    """A way of twice as many doors as rounds, or more; None if there is none."""
    check_village(village)
    return heart_way(village, village.people(), village.people(), rounds)


def is_way_against(village, rounds, thing):
    """Whether a thing is a way of twice as many doors as rounds, or more."""
    check_village(village)
    return is_heart_way(village, village.people(), village.people(), rounds, thing)


def least_rounds(village):
    """The least number of rounds for which there are slates by which all have heard of all."""
    check_village(village)
    return least_rounds_for(village, village.people(), village.people())


def nearest_within(village, slates, rounds):
    """The pair (many, slates) of the fewest exchanges that lead to slates within so many rounds, and these; or None."""
    check_slates(village, slates)
    check_rounds(rounds, 1)
    if rounds < least_rounds(village):
        return None
    if rounds_for(village, slates) <= rounds:
        return (0, copied(village, slates))
    best = None
    for number in range(count_slates(village)):
        found = slates_at(village, number)
        many = slate_distance(village, slates, found)
        if (best is None or many < best[0]) and rounds_for(village, found) <= rounds:
            best = (many, found)
    return best
