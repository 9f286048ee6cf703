"""Seatings of all people round a table: JUST ONE of slates and two ties that cross."""

from heardsince.checks import first_wrong
from heardsince.clashes import pairs_in_order
from heardsince.refusals import BadSeating
from heardsince.villages import check_village


def crossing(village, seating):
    """None, or the first two ties that cross."""
    check_village(village)
    seats = checked_seats(village, seating)
    for former, latter in pairs_in_order(village.ties()):
        if are_crossed(seats, former, latter):
            return (former, latter)
    return None


def slates_seated(village, seating):
    """The slates by which each one meets their friends as they sit, from this one's own seat on; None if ties cross."""
    if crossing(village, seating) is not None:
        return None
    seats = checked_seats(village, seating)
    return {person: friends_seated(seats, person, village.friends(person)) for person in village.people()}


def checked_seats(village, seating):
    """The dict from all people to their places in a seating; raises BadSeating."""
    people = village.people()
    index = first_wrong(people, seating)
    if index is None and len(seating) < len(people):
        index = len(seating)
    if index is not None:
        raise BadSeating(index)
    return {person: place for place, person in enumerate(seating)}


def are_crossed(seats, former, latter):
    """Whether two ties are of four people who sit by turns."""
    low, high = sorted([seats[former[0]], seats[former[1]]])
    # somebody of both sits on the border, so neither within nor without
    within = [person for person in latter if low < seats[person] < high]
    without = [person for person in latter if seats[person] < low or seats[person] > high]
    return len(within) == 1 and len(without) == 1


def friends_seated(seats, person, friends):
    """A person's friends as one comes to them going round from the person's own seat."""
    return sorted(friends, key=lambda friend: (seats[friend] - seats[person]) % len(seats))
