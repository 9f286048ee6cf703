"""Gifts, how many news one tells a friend at their meeting, and talks, how many both know behind it."""

from heardsince.calendars import check_slates, told_from
from heardsince.villages import check_friends, own_news


def gift(village, slates, one, other):
    """How many news one tells other at their meeting."""
    check_slates(village, slates)
    check_friends(village, one, other)
    return news_told(own_news(village), slates, one, other)


def gifts(village, slates):
    """The dict from all pairs (one, other) of friends to how many news one tells other."""
    check_slates(village, slates)
    news = own_news(village)
    return {pair: news_told(news, slates, pair[0], pair[1]) for pair in friend_pairs(village)}


def talks(village, slates):
    """The list, as village.ties(), of how many news both friends know behind their meeting."""
    given = gifts(village, slates)
    return [given[(one, other)] + given[(other, one)] for one, other in village.ties()]


def friend_pairs(village):
    """The list of all pairs (one, other) of friends, by one, then by other, in the village's order."""
    return [(one, other) for one in village.people() for other in village.friends(one)]


def news_told(news, slates, one, other):
    """How many news one tells other at their meeting, by everybody's own news."""
    return sum([news[person] for person in told_from(slates, one, other)])
