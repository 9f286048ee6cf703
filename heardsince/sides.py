"""What the numbers of one side of a door tell, and ledgers in which two friends lack."""

from heardsince.checks import is_numbers_of
from heardsince.errors import BadPart
from heardsince.ledgerbreaks import check_ledger, from_the_rims, gone_through, rim_order, standing
from heardsince.refusals import BadNumbers
from heardsince.villages import check_friends, check_village, inward_from, own_news


def side_told(village, one, other, numbers):
    """None, or the triple (slates, gave, got) of all behind the door from one to other, by these numbers."""
    slates, gifts, broken = side_and_break(village, one, other, numbers)
    if slates is None:
        return None
    got, gave = gifts
    return slates, gave, got


def side_break(village, one, other, numbers):
    """None, or the triple (person, front, pairs) of the first one behind the door who does not fit."""
    return side_and_break(village, one, other, numbers)[2]


def door_fault(village, ledger, one, other):
    """None, or the first thing by which both sides of a door tell that no slates have a ledger."""
    check_ledger(village, ledger)
    check_friends(village, one, other)
    given = []
    for beyond, person in ((other, one), (one, other)):
        numbers = {behind: ledger[behind] for behind in village.behind(beyond, person)}
        slates, gifts, broken = side_and_break(village, beyond, person, numbers)
        if slates is None:
            return ("break",) + broken
        given.append(gifts)
    got, gave = given[0]
    # of what one's side tells and of what other's side tells: what one gave, what one was given
    if (gave, got) != given[1]:
        return ("unlike", (gave, got), given[1])
    return None


def told_but_two(village, part, one, other):
    """Slates with these numbers of all but two friends, None if there are none."""
    check_village(village)
    check_friends(village, one, other)
    if not is_numbers_of([person for person in village.people() if person not in (one, other)], part):
        raise BadPart(part)
    found = {}
    first = told_by_further(village, part, one, other, found)
    second = told_by_further(village, part, other, one, found)
    if first is None or second is None:
        return None
    news = own_news(village)
    for person, friend, told, others in ((one, other, first, second), (other, one, second, first)):
        # what the friend gave is known by where the friend's own sums have a gap
        gift = sum_till_gap(news[friend], others)
        stood = gone_through(news[person], [(given, gave) for given, gave, further in told],
                             lambda total: total + gift)
        if stood is None:
            return None
        found[person] = [further for given, gave, further in told]
        found[person].insert(stood[0], friend)
    return {person: found[person] for person in village.people()}


def side_and_break(village, one, other, numbers):
    """The slates of all behind a door, the pair (got, gave) of what other was given and gave, and None.

    None twice and a break, if there are no such slates; raises BadVillage, NoPerson, NotFriends, BadNumbers.
    """
    check_village(village)
    check_friends(village, one, other)
    side = village.behind(one, other)
    if not is_numbers_of(side, numbers):
        raise BadNumbers(numbers)
    inward = inward_from(village, one)
    news = own_news(village)
    order = [person for person in rim_order(village, inward) if person in side]
    slates, gifts, broken = from_the_rims(
        order, inward,
        lambda person, further_in, pairs: standing(numbers, news, False, person, further_in, pairs))
    if slates is None:
        return None, None, broken
    got, gave, friend = gifts[one][0]
    return {person: slates[person] for person in side}, (got, gave), None


def told_by_further(village, part, person, friend, found):
    """The ascending list of the triples (given, gave, further) of a person's friends but one, None if there are none.

    Puts the slates of all behind these into found.
    """
    told = []
    for further in village.friends(person):
        if further != friend:
            numbers = {behind: part[behind] for behind in village.behind(person, further)}
            slates, gifts, broken = side_and_break(village, person, further, numbers)
            if slates is None:
                return None
            found.update(slates)
            told.append((gifts[0], gifts[1], further))
    return sorted(told)


def sum_till_gap(own, told):
    """The first sum, one's own news at first, that the next one in a list of triples was not given."""
    total = own
    for given, gave, further in told:
        if given != total:
            return total
        total += gave
    return total
