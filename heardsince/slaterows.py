"""Exchanges in slates, of a friend and the next one of a person, and shortest rows of them from slates to slates."""

from heardsince.calendars import check_slates
from heardsince.exchanges import rows_between, unlike_pairs


def unlike_friends(village, one, other):
    """The list of the triples (person, x, y), x ahead of y in the person's slate in one, behind in other."""
    check_slates(village, one)
    check_slates(village, other)
    return [(person, x, y) for person in village.people() for x, y in unlike_pairs(one[person], other[person])]


def slate_row(village, one, other):
    """A list of slates from one to other, each one exchange off those ahead, as short as can be."""
    check_slates(village, one)
    check_slates(village, other)
    found = [copied(village, one)]
    for person in village.people():
        for slate in rows_between(one[person], other[person])[1:]:
            found.append(with_slate(village, found[-1], person, slate))
    return found


def slate_distance(village, one, other):
    """How many exchanges lead from slates to other ones."""
    return len(unlike_friends(village, one, other))


def lies_between(village, one, third, other):
    """Whether some shortest row from slates one to slates other has the third ones."""
    check_slates(village, one)
    check_slates(village, third)
    far = {triple: True for triple in unlike_friends(village, one, other)}
    # on a shortest row just what differs in the end is turned about, each pair once
    return all([triple in far for triple in unlike_friends(village, one, third)])


def copied(village, slates):
    """Slates with new lists, in the village's order."""
    return {person: list(slates[person]) for person in village.people()}


def with_slate(village, slates, person, slate):
    """Slates, with new lists, in which one person has another slate."""
    found = copied(village, slates)
    found[person] = list(slate)
    return found
