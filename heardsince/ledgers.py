"""Ledgers, how many news each has heard in the end, and fame, how many have heard of each."""

from heardsince.calendars import check_slates, heard_from
from heardsince.villages import own_news


def ledger(village, slates):
    """The dict from all people to how many news they have heard in the end."""
    check_slates(village, slates)
    return news_heard(village, slates)


def fame(village, slates):
    """The dict from all people to how many people have heard of them."""
    check_slates(village, slates)
    many = {person: 0 for person in village.people()}
    for person in village.people():
        for other in heard_from(slates, person):
            many[other] += 1
    return many


def news_heard(village, slates):
    """The dict from all people to how many news they have heard by slates, which may be begun ones."""
    news = own_news(village)
    return {person: sum([news[one] for one in heard_from(slates, person)]) for person in village.people()}
