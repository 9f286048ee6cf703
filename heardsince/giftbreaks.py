"""From gifts and from talks back to slates: JUST ONE of slates and a break."""

from heardsince.checks import is_numbers_of
from heardsince.errors import BadGifts, BadTalks
from heardsince.gifts import friend_pairs
from heardsince.ledgerbreaks import from_the_rims, gone_through, rim_order
from heardsince.villages import check_village, first_bad_amount, inward_from, own_news


def slates_of_gifts(village, gifts):
    """The slates with these gifts, None if there are none."""
    if gift_break(village, gifts) is not None:
        return None
    return {person: friends_by_gifts(village, gifts, person) for person in village.people()}


def gift_break(village, gifts):
    """None, or the first pair (person, friend) of whom the rule of gifts is not so."""
    check_gifts(village, gifts)
    news = own_news(village)
    for person in village.people():
        right = news[person]
        for friend in friends_by_gifts(village, gifts, person):
            if gifts[(person, friend)] != right:
                return (person, friend)
            right += gifts[(friend, person)]
    return None


def slates_of_talks(village, talks):
    """The slates with these talks, None if there are none."""
    return slates_and_talks_break(village, talks)[0]


def talks_break(village, talks):
    """None, or the triple (person, talk, pairs) of the first person, in rim order, who does not fit."""
    return slates_and_talks_break(village, talks)[1]


def check_gifts(village, gifts):
    """Raises BadVillage, BadGifts."""
    check_village(village)
    if not is_numbers_of(friend_pairs(village), gifts):
        raise BadGifts(gifts)


def check_talks(village, talks):
    """Raises BadVillage, BadTalks."""
    check_village(village)
    index = first_bad_amount(len(village.ties()), talks, 0)
    if index is not None:
        raise BadTalks(index)


def friends_by_gifts(village, gifts, person):
    """The list of a person's friends by what the person gave them, of equal gifts in the village's order."""
    return sorted(village.friends(person), key=lambda friend: gifts[(person, friend)])


def slates_and_talks_break(village, talks):
    """The slates with these talks and None, or None and a break."""
    check_talks(village, talks)
    news = own_news(village)
    known = {}
    for (one, other), talk in zip(village.ties(), talks):
        known[(one, other)] = talk
        known[(other, one)] = talk

    def stand(person, further_in, pairs):
        if further_in is None:
            return None, gone_through(news[person], pairs, lambda total: total)
        talk = known[(person, further_in)]
        standing = gone_through(news[person], pairs, lambda total: talk)
        # the sum has to grow to the talk by what the friend further in gave
        if standing is None or standing[2] < 1:
            return talk, None
        return talk, standing

    inward = inward_from(village, village.people()[0])
    slates, gifts, broken = from_the_rims(rim_order(village, inward), inward, stand)
    if slates is None:
        return None, broken
    return {person: slates[person] for person in village.people()}, None
