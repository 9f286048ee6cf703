"""Begun slates, by whom each has met so far; ledgers of a moment, and of one moment behind another."""

from heardsince.calendars import meetings_in_order
from heardsince.checks import is_dict_of, is_list, is_numbers_of, is_some_of
from heardsince.errors import BadBegun, BadLedgers
from heardsince.ledgerbreaks import check_ledger, slates_and_break
from heardsince.ledgers import news_heard
from heardsince.villages import check_village, own_news


def begun_ledger(village, begun):
    """The dict from all people to how many news they know by then."""
    check_village(village)
    if not is_begun(village, begun):
        raise BadBegun(begun)
    return news_heard(village, begun)


def begun_of_ledger(village, ledger):
    """The begun slates with this ledger, None if there are none."""
    check_ledger(village, ledger)
    return slates_and_break(village, village.people()[0], ledger, own_news(village), True)[0]


def begun_break(village, ledger):
    """None, or the triple (person, front, pairs) of the first person, in rim order, who does not fit."""
    check_ledger(village, ledger)
    return slates_and_break(village, village.people()[0], ledger, own_news(village), True)[1]


def moments_fault(village, ledgers):
    """None, or the first fault by which no calendar has these ledgers at some moments, one behind another."""
    return moments_and_fault(village, ledgers)[1]


def moments_calendar(village, ledgers):
    """The first calendar that has these ledgers at some moments, one behind another; None if there is none."""
    moments = moments_and_fault(village, ledgers)[0]
    if moments is None:
        return None
    ties = village.ties()
    calendar = []
    for begun in moments:
        calendar = meetings_in_order(ties, begun, calendar)
    return calendar + [tie for tie in ties if tie not in calendar]


def is_begun(village, thing):
    """Whether a thing is begun slates: of two friends each stands in the other's list, or neither does."""
    people = village.people()
    if not is_dict_of(people, thing):
        return False
    if not all([is_some_of(village.friends(person), thing[person]) for person in people]):
        return False
    return all([(other in thing[one]) == (one in thing[other]) for one, other in village.ties()])


def check_ledgers(village, ledgers):
    """Raises BadVillage, BadLedgers."""
    check_village(village)
    if not is_list(ledgers) or len(ledgers) == 0:
        raise BadLedgers(0)
    for index, numbers in enumerate(ledgers):
        if not is_numbers_of(village.people(), numbers):
            raise BadLedgers(index)


def moments_and_fault(village, ledgers):
    """The list of the begun slates of each ledger and None, or None and the first fault."""
    check_ledgers(village, ledgers)
    news = own_news(village)
    moments = []
    ahead = {person: [] for person in village.people()}
    for index, numbers in enumerate(ledgers):
        begun = slates_and_break(village, village.people()[0], numbers, news, True)[0]
        if begun is None:
            return None, ("break", index)
        if not all([begun[person][:len(ahead[person])] == ahead[person] for person in ahead]):
            return None, ("back", index)
        moments.append(begun)
        ahead = begun
    return moments, None
