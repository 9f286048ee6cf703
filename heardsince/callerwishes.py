"""Wishers, who tell whom people would meet next, and askers, who find slates out by asking for numbers."""

from heardsince.calendars import check_slates, is_slates
from heardsince.callers import check_caller
from heardsince.checks import is_one_of
from heardsince.ledgers import news_heard
from heardsince.observers import check_lot
from heardsince.refusals import BadAnswer, BadWish
from heardsince.slaterows import copied
from heardsince.tables import count_slates, slates_at
from heardsince.villages import check_village


def wished_calendar(village, wisher):
    """The calendar by which those who wish for one another meet."""
    check_village(village)
    check_caller(wisher)
    people = village.people()
    ties = village.ties()
    met = {person: [] for person in people}
    heard = {person: [person] for person in people}
    wishes = {}
    calendar = []
    asked = people
    while len(calendar) < len(ties):
        for person in asked:
            ask_wish(village, wisher, met[person], heard[person], wishes, person)
        # as there are no rings there always are two who wish for one another
        one, other = [tie for tie in ties if wishes.get(tie[0], None) == tie[1]
                      and wishes.get(tie[1], None) == tie[0]][0]
        calendar.append((one, other))
        met[one].append(other)
        met[other].append(one)
        heard[one] = heard[one] + heard[other]
        heard[other] = heard[one]
        asked = [person for person in people if person in (one, other)]
    return calendar


def run_asker(village, slates, asker):
    """The pair (people, answer): whom an asker asks for their numbers, and the slates that it tells then."""
    check_slates(village, slates)
    check_caller(asker)
    return asked_and_answer(village, slates, asker)


def beat_asker(village, asker):
    """The first slates by which an asker tells other ones, None if there are none."""
    check_village(village)
    check_caller(asker)
    for number in range(count_slates(village)):
        slates = slates_at(village, number)
        if asked_and_answer(village, slates, asker)[1] != slates:
            return slates
    return None


def same_numbers(village, lot):
    """A pair of unlike slates by which all of a lot have the same numbers, None if there are none."""
    check_village(village)
    check_lot(village, lot)
    known = {}
    for number in range(count_slates(village)):
        slates = slates_at(village, number)
        heard = news_heard(village, slates)
        numbers = tuple([heard[person] for person in lot])
        if numbers in known:
            return slates_at(village, known[numbers]), slates
        known[numbers] = number
    return None


def ask_wish(village, wisher, met, heard, wishes, person):
    """Asks a wisher for whom a person wishes, if the person has friends left, and puts it into wishes."""
    left = [friend for friend in village.friends(person) if friend not in met]
    # who has met all wishes for nobody
    wishes[person] = None
    if len(left) > 0:
        wish = wisher(person, list(met), [other for other in village.people() if other in heard])
        if not is_one_of(left, wish):
            raise BadWish(wish)
        wishes[person] = wish


def asked_and_answer(village, slates, asker):
    """The pair of the list of people whom an asker asks, and the slates that it tells; raises BadAnswer."""
    people = village.people()
    numbers = news_heard(village, slates)
    pairs = []
    answer = asker(list(pairs))
    while not is_slates(village, answer):
        if not is_one_of(people, answer) or answer in [person for person, number in pairs]:
            raise BadAnswer(answer)
        pairs.append((answer, numbers[answer]))
        answer = asker(list(pairs))
    return [person for person, number in pairs], copied(village, answer)
