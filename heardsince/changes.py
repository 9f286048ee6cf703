"""What an exchange of two friends in a slate changes, the best one, and slates climbed by the best ones."""

from heardsince.calendars import check_slates, told_from
from heardsince.exchanges import check_place, with_exchange
from heardsince.ledgers import news_heard
from heardsince.slaterows import copied, with_slate
from heardsince.tables import turned
from heardsince.villages import check_person, inward_from, own_news


def changed_by(village, slates, person, place):
    """The pair (lost, won) of the lists of the pairs (one, other): of whom one has heard no longer, or now has."""
    check_exchange(village, slates, person, place)
    x, y = slates[person][place:place + 2]
    about = turned(village, slates)
    # turned about, what a friend tells a person comes from just those who hear through that friend
    lost = pairs_of(village, told_from(about, y, person), told_from(slates, x, person))
    won = pairs_of(village, told_from(about, x, person), told_from(slates, y, person))
    return lost, won


def heard_in_all(village, slates):
    """How much news all have heard together."""
    check_slates(village, slates)
    return sum(news_heard(village, slates).values())


def gain(village, slates, person, place):
    """How much more is heard in all behind an exchange."""
    check_exchange(village, slates, person, place)
    told, hearers = sums_at_doors(village, slates)
    return gain_of(told, hearers, slates, person, place)


def best_exchange(village, slates):
    """The pair (person, place) of the first exchange that gains most, None if none gains."""
    check_slates(village, slates)
    told, hearers = sums_at_doors(village, slates)
    most = 0
    best = None
    for person in village.people():
        for place in range(len(slates[person]) - 1):
            more = gain_of(told, hearers, slates, person, place)
            if more > most:
                most = more
                best = (person, place)
    return best


def climbed(village, slates):
    """The list of slates, from these on, each the best exchange behind those ahead, till none gains."""
    check_slates(village, slates)
    found = [copied(village, slates)]
    best = best_exchange(village, slates)
    while best is not None:
        person, place = best
        found.append(with_slate(village, found[-1], person, with_exchange(found[-1][person], place)))
        best = best_exchange(village, found[-1])
    return found


def check_exchange(village, slates, person, place):
    """Raises BadVillage, BadSlates, NoPerson, BadPlace."""
    check_slates(village, slates)
    check_person(village, person)
    check_place(place, len(slates[person]))


def pairs_of(village, hearers, heard):
    """The list of all pairs (one, other), one among hearers, other among those heard, in the village's order."""
    people = village.people()
    return [(one, other) for one in people if one in hearers for other in people if other in heard]


def sums_at_doors(village, slates):
    """Two dicts from pairs (friend, person): how many news the friend tells the person, and how many hear in turn."""
    told = sums_told(village, slates, own_news(village))
    hearers = sums_told(village, turned(village, slates), {person: 1 for person in village.people()})
    return told, hearers


def sums_told(village, slates, news):
    """The dict from all pairs (one, other) of friends to how many news one tells other, by everybody's own news."""
    inward = inward_from(village, village.people()[0])
    told = {}
    # from the rims inward first, and then, with what comes from further in, outward
    for one in reversed(list(inward)[1:]):
        slate = slates[one]
        ahead = slate[:slate.index(inward[one])]
        told[(one, inward[one])] = news[one] + sum([told[(friend, one)] for friend in ahead])
    for one in inward:
        total = news[one]
        for friend in slates[one]:
            if friend != inward[one]:
                told[(one, friend)] = total
            total += told[(friend, one)]
    return told


def gain_of(told, hearers, slates, person, place):
    """How much more is heard in all behind an exchange, by sums_at_doors."""
    x, y = slates[person][place:place + 2]
    return hearers[(x, person)] * told[(y, person)] - hearers[(y, person)] * told[(x, person)]
