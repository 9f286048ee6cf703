"""Views: what one knows in the end of who met whom when, in how many slates it is so, and chances by it.

Ranks are a dict from pairs (person, friend): who has the lower one is known to be met ahead, of equal ones nothing is.
"""

from math import factorial

from heardsince.calendars import check_slates, told_from
from heardsince.checks import is_all_of, is_list, is_some_of
from heardsince.meetingdays import friends_by
from heardsince.refusals import BadView
from heardsince.tables import hang_together
from heardsince.tellings import lots_at
from heardsince.villages import check_person, check_two, check_village, inward_from


def view(village, slates, person):
    """The list of the pairs (friend, people), as a person met them: the people of whom the friend told."""
    check_slates(village, slates)
    check_person(village, person)
    found = []
    for friend in slates[person]:
        told = told_from(slates, friend, person)
        found.append((friend, [one for one in village.people() if one in told]))
    return found


def is_view(village, person, thing):
    """Whether a thing is the view of a person by some slates, the lists of people in whatever order."""
    check_village(village)
    check_person(village, person)
    if not is_list(thing) or not all([is_list(pair) and len(pair) == 2 for pair in thing]):
        return False
    if not is_all_of(village.friends(person), [pair[0] for pair in thing]):
        return False
    return all([can_tell(village, person, friend, people) for friend, people in thing])


def count_views(village, person):
    """How many views a person can have."""
    check_village(village)
    check_person(village, person)
    many = factorial(len(village.friends(person)))
    for friend in village.friends(person):
        many *= lots_at(village, friend, person)
    return many


def slates_of_view(village, person, view):
    """Slates by which this is a person's view."""
    return slates_by_ranks(village, checked_ranks(village, person, view))


def count_of_view(village, person, view):
    """How many slates there are by which this is a person's view."""
    return count_by_ranks(village, checked_ranks(village, person, view))


def seen_chance(village, person, view, one, other):
    """In what part of all slates of a view one has heard of other, a fraction."""
    ranks = checked_ranks(village, person, view)
    check_two(village, one, other)
    return chance_by_ranks(ranks, village.way(other, one))


def two_ways(village, person, view, one, other):
    """A pair of slates of a view, by the first of which one has heard of other, by the second not; None if it is known.
    """
    ranks = checked_ranks(village, person, view)
    check_two(village, one, other)
    way = village.way(other, one)
    if chance_by_ranks(ranks, way) in ((0, 1), (1, 1)):
        return None
    heard = slates_by_ranks(village, ranks)
    unheard = slates_by_ranks(village, ranks)
    for ahead, between, behind in zip(way, way[1:], way[2:]):
        if ranks[(between, ahead)] == ranks[(between, behind)]:
            put_ahead(heard[between], ahead, behind)
            put_ahead(unheard[between], behind, ahead)
    return heard, unheard


def can_tell(village, person, friend, thing):
    """Whether a thing is a list of those of whom a friend can tell a person."""
    return is_some_of(village.behind(person, friend), thing) and friend in thing and hang_together(village, thing)


def checked_ranks(village, person, view):
    """The ranks that are known by a person's view; raises BadVillage, NoPerson, BadView."""
    if not is_view(village, person, view):
        raise BadView(view)
    seen = {one: True for friend, people in view for one in people}
    inward = inward_from(village, person)
    ranks = {(person, friend): place for place, (friend, people) in enumerate(view)}
    for one in list(inward)[1:]:
        for friend in village.friends(one):
            # whose news came through was met ahead of the meeting towards the person, who else is seen behind it
            ranks[(one, friend)] = 0 if one not in seen or friend in seen else 2
        if one in seen:
            ranks[(one, inward[one])] = 1
    return ranks


def slates_by_ranks(village, ranks):
    """The slates by rising ranks; of equal ones the friend goes first who stands first in the village."""
    return {person: friends_by(village.friends(person), ranks, person) for person in village.people()}


def count_by_ranks(village, ranks):
    """How many slates there are by rising ranks."""
    many = 1
    for person in village.people():
        row = [ranks[(person, friend)] for friend in village.friends(person)]
        for rank in sorted(set(row)):
            many *= factorial(row.count(rank))
    return many


def chance_by_ranks(ranks, way):
    """In what part of all slates by rising ranks a way rises, a fraction."""
    unknown = 0
    for ahead, between, behind in zip(way, way[1:], way[2:]):
        if ranks[(between, behind)] < ranks[(between, ahead)]:
            return (0, 1)
        if ranks[(between, behind)] == ranks[(between, ahead)]:
            unknown += 1
    return (1, 1 << unknown)


def put_ahead(slate, ahead, behind):
    """Lets two friends change places in a slate, if they stand the other way about; changes the slate."""
    first = slate.index(ahead)
    second = slate.index(behind)
    if second < first:
        slate[second] = ahead
        slate[first] = behind
