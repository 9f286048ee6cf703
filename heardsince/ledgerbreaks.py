"""From ledgers and fame back to slates, from the rims inward: JUST ONE of slates and a break."""

from heardsince.checks import is_numbers_of
from heardsince.errors import BadFame, BadLedger
from heardsince.tables import turned
from heardsince.villages import check_village, inward_from, own_news


def slates_of_ledger(village, ledger):
    """The slates with this ledger, None if there are none."""
    check_ledger(village, ledger)
    return slates_and_break(village, ledger, own_news(village), False)[0]


def ledger_break(village, ledger):
    """None, or the triple (person, front, pairs) of the first person, in rim order, who does not fit."""
    check_ledger(village, ledger)
    return slates_and_break(village, ledger, own_news(village), False)[1]


def slates_of_fame(village, fame):
    """The slates with this fame, None if there are none."""
    check_fame(village, fame)
    slates = slates_and_break(village, fame, one_each(village), False)[0]
    if slates is None:
        return None
    # fame is the ledger of slates turned about, each with one news
    return turned(village, slates)


def fame_break(village, fame):
    """The ledger_break of fame with own news 1 for all."""
    check_fame(village, fame)
    return slates_and_break(village, fame, one_each(village), False)[1]


def check_ledger(village, ledger):
    """Raises BadVillage, BadLedger."""
    check_village(village)
    if not is_numbers_of(village.people(), ledger):
        raise BadLedger(ledger)


def check_fame(village, fame):
    """Raises BadVillage, BadFame."""
    check_village(village)
    if not is_numbers_of(village.people(), fame):
        raise BadFame(fame)


def one_each(village):
    """The dict from people to one news each."""
    return {person: 1 for person in village.people()}


def rim_order(village, inward):
    """The people, those farthest from the middle first; inward tells the friend further in, near ones first."""
    doors = {}
    for person in inward:
        doors[person] = 0 if inward[person] is None else doors[inward[person]] + 1
    return sorted(village.people(), key=lambda one: -doors[one])


def slates_and_break(village, numbers, news, begun):
    """Slates (begun ones, if begun is True) by which these numbers of news are known, and None; or None and a break."""
    inward = inward_from(village, village.people()[0])
    gifts = {person: [] for person in inward}
    slates = {}
    for person in rim_order(village, inward):
        told = sorted(gifts[person])
        pairs = [(given, gave) for given, gave, friend in told]
        front = numbers[person] - news[person] - sum([gave for given, gave in pairs])
        place_and_sum = gone_through(news[person], pairs, front)
        if place_and_sum is None or not is_front(front, inward[person], begun):
            return None, (person, front, pairs)
        slates[person] = [friend for given, gave, friend in told]
        if front > 0:
            place, total = place_and_sum
            slates[person].insert(place, inward[person])
            gifts[inward[person]].append((front, total, person))
    return {person: slates[person] for person in village.people()}, None


def is_front(front, further_in, begun):
    """Whether a front can be what the friend further in gave; begun tells whether this one may not have been met."""
    if further_in is None:
        return front == 0
    return front > 0 or (begun and front == 0)


def gone_through(own, pairs, front):
    """The place among pairs of the friend further in, who gave front, and the sum given there; None if none is right.

    A front of 0, by which nobody further in was met, makes no gap in the sums good: its place is behind all.
    """
    total = own
    found = None
    for place, (given, gave) in enumerate(pairs):
        if given != total and found is None:
            # where the sum is not what the next friend was given, nobody but the friend further in can stand ahead
            found = (place, total)
            total += front
        if given != total:
            return None
        total += gave
    if found is None:
        return len(pairs), total
    return found
