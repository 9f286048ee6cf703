"""From ledgers and fame back to slates, from the rims inward: JUST ONE of slates and a break."""

from heardsince.checks import is_numbers_of
from heardsince.errors import BadFame, BadLedger
from heardsince.tables import turned
from heardsince.villages import check_village, doors_inward, inward_from, own_news


def slates_of_ledger(village, ledger):
    """The slates with this ledger, None if there are none."""
    check_ledger(village, ledger)
    return slates_and_break(village, village.people()[0], ledger, own_news(village), False)[0]


def ledger_break(village, ledger):
    """None, or the triple (person, front, pairs) of the first person, in rim order, who does not fit."""
    check_ledger(village, ledger)
    return slates_and_break(village, village.people()[0], ledger, own_news(village), False)[1]


def slates_of_fame(village, fame):
    """The slates with this fame, None if there are none."""
    check_fame(village, fame)
    slates = slates_and_break(village, village.people()[0], fame, one_each(village), False)[0]
    if slates is None:
        return None
    # fame is the ledger of slates turned about, each with one news
    return turned(village, slates)


def fame_break(village, fame):
    """The ledger_break of fame with own news 1 for all."""
    check_fame(village, fame)
    return slates_and_break(village, village.people()[0], fame, one_each(village), False)[1]


def check_ledger(village, ledger):
    """Raises BadVillage, BadLedger."""
    check_village(village)
    if not is_numbers_of(village.people(), ledger):
        raise BadLedger(ledger)


def check_fame(village, fame):
    """Raises BadVillage, BadFame."""
    check_village(village)
    if not is_numbers_of(village.people(), fame):
        raise BadFame(fame)


def one_each(village):
    """The dict from people to one news each."""
    return {person: 1 for person in village.people()}


def rim_order(village, inward):
    """The people, those farthest from the middle first; inward tells the friend further in, near ones first."""
    doors = doors_inward(inward)
    return sorted(village.people(), key=lambda one: -doors[one])


def slates_and_break(village, middle, numbers, news, begun):
    """Slates (begun ones, if begun is True) by which these numbers of news are known, and None; or None and a break.

    The number of middle, who stands in the place of the village's first person, may lack.
    """
    inward = inward_from(village, middle)
    slates, gifts, broken = from_the_rims(
        rim_order(village, inward), inward,
        lambda person, further_in, pairs: standing(numbers, news, begun, person, further_in, pairs))
    if slates is None:
        return None, broken
    return {person: slates[person] for person in village.people()}, None


def standing(numbers, news, begun, person, further_in, pairs):
    """How a person stands, as from_the_rims asks for it, by numbers of news known."""
    front = None
    if person in numbers:
        front = numbers[person] - news[person] - sum([gave for given, gave in pairs])
    if not is_front(front, further_in, begun):
        return front, None
    # of a number that lacks, and of a front of 0, nobody further in makes the sums good
    return front, gone_through(news[person], pairs, lambda total: total + (front or 0))


def from_the_rims(order, inward, stand):
    """Slates, gifts and None, or None twice and a break, by a function that tells of each person how they stand.

    It is asked of a person, their friend further in (None for nobody) and the pairs of their friends behind, and tells
    what a break has of the person, and where the friend further in stands: (place, given, gave), None who does not fit.
    order are those who are asked, far ones first. Gifts are the triples (given, gave, friend) of each one's friends
    behind.
    """
    gifts = {person: [] for person in inward}
    slates = {}
    for person in order:
        told = sorted(gifts[person])
        pairs = [(given, gave) for given, gave, friend in told]
        shown, place_and_gifts = stand(person, inward[person], pairs)
        if place_and_gifts is None:
            return None, None, (person, shown, pairs)
        slates[person] = [friend for given, gave, friend in told]
        place, given_further_in, front = place_and_gifts
        # who gave nothing was not met, or is nobody: there is none further in than the middle
        if front > 0:
            slates[person].insert(place, inward[person])
            gifts[inward[person]].append((front, given_further_in, person))
    return slates, gifts, None


def is_front(front, further_in, begun):
    """Whether a front can be what the friend further in gave; begun tells whether this one may not have been met."""
    if further_in is None:
        return front is None or front == 0
    return front > 0 or (begun and front == 0)


def gone_through(own, pairs, grown):
    """The triple (place, given, gave) of the friend further in among pairs; None if there is no right place.

    grown tells, of the sum that the friend further in is given, to which sum it grows by what they gave.
    """
    total = own
    found = None
    for place, (given, gave) in enumerate(pairs):
        if given != total and found is None:
            # where the sum is not what the next friend was given, nobody but the friend further in can stand ahead
            found = (place, total, grown(total) - total)
            total = grown(total)
        if given != total:
            return None
        total += gave
    if found is None:
        return len(pairs), total, grown(total) - total
    return found
