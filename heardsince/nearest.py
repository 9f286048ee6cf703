"""Ledgers with as few wrong numbers as can be, or wrong ones that cost as little as can be."""

from heardsince.checks import is_dict_of, is_integer
from heardsince.errors import BadPrices
from heardsince.ledgerbreaks import check_ledger, one_each
from heardsince.ledgers import news_heard
from heardsince.tables import count_slates, slates_at


def fewest_wrong(village, ledger):
    """The least number of people whose numbers must be otherwise that there are slates."""
    check_ledger(village, ledger)
    return least_otherwise(village, ledger, one_each(village))[0]


def nearest(village, ledger):
    """The list of the ledgers of slates that differ at as few people as can be, as slates compare."""
    check_ledger(village, ledger)
    return least_otherwise(village, ledger, one_each(village))[1]


def cheapest(village, ledger, prices):
    """The pair (price, ledgers): the least price of numbers told otherwise, and all ledgers of slates that cost it."""
    check_ledger(village, ledger)
    if not is_prices(village.people(), prices):
        raise BadPrices(prices)
    return least_otherwise(village, ledger, prices)


def is_prices(people, thing):
    """Whether a thing is a dict from just all people to integers from 1 on."""
    return is_dict_of(people, thing) and all([is_integer(thing[person]) and thing[person] >= 1 for person in people])


def least_otherwise(village, ledger, prices):
    """The pair (price, ledgers): the least sum of prices where ledgers of slates differ, and all those, in order."""
    least = None
    found = []
    for number in range(count_slates(village)):
        numbers = news_heard(village, slates_at(village, number))
        price = sum([prices[person] for person in numbers if numbers[person] != ledger[person]])
        if least is None or price < least:
            least = price
            found = []
        if price == least:
            found.append(numbers)
    return least, found
