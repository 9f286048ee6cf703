"""Ledgers that lie within a box: from which number to which each can have heard."""

from heardsince.checks import is_dict_of, is_span
from heardsince.errors import BadBox
from heardsince.ledgerbreaks import rim_order
from heardsince.ledgers import news_heard
from heardsince.tables import slates_number
from heardsince.villages import check_village, inward_from, own_news


def slates_in_box(village, box):
    """The first slates whose ledger lies within the box, None if there are none."""
    every = all_in_box(village, box)
    if len(every) == 0:
        return None
    return every[0]


def count_in_box(village, box):
    """How many slates there are whose ledgers lie within the box."""
    return len(all_in_box(village, box))


def numbers_in_box(village, box):
    """The dict from all people to the ascending lists of the numbers that they have in ledgers within the box."""
    ledgers = [news_heard(village, slates) for slates in all_in_box(village, box)]
    return {person: sorted(set([numbers[person] for numbers in ledgers])) for person in village.people()}


def sure_in_box(village, box):
    """The list of the triples (person, one, other): who meets whom ahead of whom by all slates within the box."""
    return sure_by_all(village, all_in_box(village, box))


def check_box(village, box):
    """Raises BadVillage, BadBox."""
    check_village(village)
    if not is_dict_of(village.people(), box) or not all([is_span(box[person]) for person in box]):
        raise BadBox(box)


def sure_by_all(village, every):
    """The list of the triples (person, one, other): who meets one ahead of other by all of a list of slates."""
    if len(every) == 0:
        return []
    sure = [(person, one, other) for person in village.people() for one in village.friends(person)
            for other in village.friends(person) if one != other]
    for slates in every:
        places = {person: {friend: place for place, friend in enumerate(slates[person])} for person in slates}
        sure = [(person, one, other) for person, one, other in sure if places[person][one] < places[person][other]]
    return sure


def all_in_box(village, box):
    """The list of all slates whose ledgers lie within the box, as slates compare.

    From the rims inward: of each person all ways are gathered to stand with those behind. A WAY is (least, most, gave,
    slates): between which numbers what the friend further in gave must lie, what that friend was given, and the slates
    of the person and of all behind. So few ways are left of people whose numbers are told, even if some lack.
    """
    check_box(village, box)
    # who may have most numbers stands in the middle, as nobody further in has to be found out there
    middle = max(village.people(), key=lambda person: box[person][1] - box[person][0])
    inward = inward_from(village, middle)
    news = own_news(village)
    ways = {}
    for person in rim_order(village, inward):
        behind = [friend for friend in village.friends(person) if friend != inward[person]]
        ways[person] = ways_to_stand(person, inward[person], news[person], box[person],
                                     chosen_ways(behind, ways))
    found = [{person: list(slates[person]) for person in village.people()}
             for least, most, gave, slates in ways[middle]]
    numbered = sorted([(slates_number(village, slates), place) for place, slates in enumerate(found)])
    return [found[place] for number, place in numbered]


def chosen_ways(behind, ways):
    """The list of all dicts from the friends behind to one of the ways of each."""
    chosen = [{}]
    for friend in behind:
        chosen = [{**row, friend: way} for row in chosen for way in ways[friend]]
    return chosen


def ways_to_stand(person, further_in, own, span, choices):
    """The list of all ways of a person, by the choices that chosen_ways tells; span is that of the person's number."""
    found = []
    for choice in choices:
        known = own + sum([choice[friend][2] for friend in choice])
        fronts = (max(1, span[0] - known), span[1] - known)
        if further_in is None:
            fronts = (0, 0) if span[0] <= known <= span[1] else (0, -1)
        if fronts[0] <= fronts[1]:
            behind = {}
            for friend in choice:
                behind.update(choice[friend][3])
            for least, most, gave, row in rows_to_stand(further_in, own, fronts, choice):
                found.append((least, most, gave, {**behind, person: row}))
    return found


def rows_to_stand(further_in, own, fronts, choice):
    """The list of (least, most, gave, row): the rows of all friends in which each can stand, the one further in, too.

    Ahead of the friend further in sums are known; behind, by how much they are greater lies between least and most.
    """
    found = []
    steps = [([], own, (0, 0), None, list(choice))]
    while len(steps) > 0:
        row, total, grown, gave, left = steps.pop()
        met = gave is not None or further_in is None
        if len(left) == 0 and met:
            found.append((grown[0], grown[1], gave, row))
        if not met:
            steps.append((row + [further_in], total, fronts, total, left))
        for friend in left:
            least, most, gift, slates = choice[friend]
            narrowed = (max(grown[0], least - total), min(grown[1], most - total))
            others = [other for other in left if other != friend]
            # sums only grow: so nobody may be left who must have been given less
            if narrowed[0] <= narrowed[1] and can_wait(others, choice, total + gift + narrowed[0]):
                steps.append((row + [friend], total + gift, narrowed, gave, others))
    return found


def can_wait(friends, choice, total):
    """Whether all friends can still be given such a sum or more."""
    return all([total <= choice[friend][1] for friend in friends])
