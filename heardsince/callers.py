"""Those who do not tell all: keepers-back, whom one asks, and silent people; the fewest who keep news from hearers."""

from heardsince.calendarnumbers import is_function
from heardsince.calendars import check_slates, heard_from
from heardsince.checks import is_some_of
from heardsince.exchanges import calendar_as_told
from heardsince.lotsapart import fewest_and_apart
from heardsince.observers import check_lot, check_observers
from heardsince.refusals import BadCaller, BadTelling, NoGoBetween
from heardsince.villages import check_two


def kept_table(village, calendar, keeper):
    """The dict from all people to the lists of those of whom they have heard, if a keeper tells what is told on."""
    meetings = calendar_as_told(village, calendar)
    check_caller(keeper)
    people = village.people()
    heard = {person: [person] for person in people}
    for one, other in meetings:
        told = []
        for teller, listener in ((one, other), (other, one)):
            known = [person for person in people if person in heard[teller]]
            answer = keeper(teller, listener, list(known))
            if not is_some_of(known, answer):
                raise BadTelling(answer)
            # the keeper might change what it told
            told.append(list(answer))
        heard[other] = heard[other] + told[0]
        heard[one] = heard[one] + told[1]
    return {person: [other for other in people if other in heard[person]] for person in people}


def silent_heard(village, slates, lot, one, other):
    """Whether one has heard of other, if all of a lot are silent."""
    check_observers(village, slates, lot)
    check_two(village, one, other)
    if other not in heard_from(slates, one):
        return False
    return not any([person in lot for person in village.way(other, one)[1:-1]])


def fewest_silent(village, slates, hearers, tellers):
    """A lot of as few people as can be such that, if they are silent, no hearer hears of any teller."""
    ways = ways_heard(village, slates, hearers, tellers)
    return fewest_and_apart(village, [way[1:-1] for way in ways])[0]


def apart_rumours(village, slates, hearers, tellers):
    """A list of pairs (hearer, teller), nobody standing between the ends of two of their ways, with as many as can be.
    """
    ways = ways_heard(village, slates, hearers, tellers)
    places = fewest_and_apart(village, [way[1:-1] for way in ways])[1]
    return [(ways[place][-1], ways[place][0]) for place in places]


def check_caller(thing):
    """Raises BadCaller for what cannot be called."""
    if not is_function(thing):
        raise BadCaller(thing)


def check_go_betweens(village, slates, hearers, tellers):
    """Raises BadVillage, BadSlates, BadLot of hearers, of tellers, NoGoBetween."""
    check_slates(village, slates)
    check_lot(village, hearers)
    check_lot(village, tellers)
    for hearer in hearers:
        for teller in tellers:
            if hearer == teller or teller in slates[hearer]:
                raise NoGoBetween(hearer, teller)


def ways_heard(village, slates, hearers, tellers):
    """The list of the ways from tellers to hearers who have heard of them, in the village's order by hearer, by teller.
    """
    check_go_betweens(village, slates, hearers, tellers)
    found = []
    for hearer in village.people():
        if hearer in hearers:
            heard = heard_from(slates, hearer)
            for teller in village.people():
                if teller in tellers and teller in heard:
                    found.append(village.way(teller, hearer))
    return found
