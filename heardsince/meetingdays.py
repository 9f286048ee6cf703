"""What several files share: dicts from meetings to what each has, slates by them, the earliest that each can have."""

from heardsince.calendars import meetings_in_order


def by_ties(ties, thing):
    """The dict from ties, in their order, to what a thing has for each, either way round.

    None for what is no dict from just all of them, each of them one way round alone.
    """
    # of as many as there are ties, one that stands there both ways round leaves another one out
    if not isinstance(thing, dict) or len(thing) != len(ties):
        return None
    found = {}
    for one, other in ties:
        if (one, other) in thing:
            found[(one, other)] = thing[(one, other)]
        elif (other, one) in thing:
            found[(one, other)] = thing[(other, one)]
        else:
            return None
    return found


def both_ways(table):
    """A dict from ties with each of them the other way round besides."""
    found = {}
    for one, other in table:
        found[(one, other)] = table[(one, other)]
        found[(other, one)] = table[(one, other)]
    return found


def tie_names(ties):
    """The dict from ties, either way round, to the ties as the village has them."""
    return both_ways({tie: tie for tie in ties})


def are_unlike_at_each(village, days):
    """Whether by a dict from ties to days nobody has two meetings on one day."""
    at = both_ways(days)
    for person in village.people():
        row = [at[(person, friend)] for friend in village.friends(person)]
        if len(set(row)) < len(row):
            return False
    return True


def slates_by(village, days):
    """The slates by rising days; of equal ones the friend goes first who stands first in the village."""
    at = both_ways(days)
    return {person: friends_by(village.friends(person), at, person) for person in village.people()}


def friends_by(friends, at, person):
    """A person's friends by rising days; at has them of pairs either way round."""
    return sorted(friends, key=lambda friend: at[(person, friend)])


def just_ahead(village, slates):
    """The dict from ties, in an order in which they can be held, to the lists of those right ahead in both slates."""
    names = tie_names(village.ties())
    ahead = {}
    for one, other in meetings_in_order(village.ties(), slates, []):
        ahead[(one, other)] = []
        for person, friend in ((one, other), (other, one)):
            place = slates[person].index(friend)
            if place > 0:
                ahead[(one, other)].append(names[(person, slates[person][place - 1])])
    return ahead


def earliest(ahead, step):
    """The dict from ties to the least that each can have.

    ahead is as just_ahead tells it; step tells it of a tie and the list of what those right ahead of it have.
    """
    found = {}
    for tie in ahead:
        found[tie] = step(tie, [found[one] for one in ahead[tie]])
    return found


def chain_to(ahead, step, found, last):
    """A chain to a last tie that alone makes the least of this one what it is; found is as earliest tells it."""
    row = [last]
    # where a tie would have as much with none ahead of it, the chain can begin
    while found[row[-1]] != step(row[-1], []):
        row.append(max(ahead[row[-1]], key=lambda tie: found[tie]))
    return list(reversed(row))
