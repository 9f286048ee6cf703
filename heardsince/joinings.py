"""Villages joined at porches, parted at a tie, and with somebody put between two friends."""

from heardsince.calendars import check_slates, heard_by_way_of, is_slates
from heardsince.checks import is_list, is_name, is_number, is_one_of
from heardsince.refusals import BadName, BadPorch, CommonPerson
from heardsince.tables import turned
from heardsince.villages import Village, check_friends, check_village, own_news


def is_porch(village, thing):
    """Whether a thing is slates, a person, and a place where a new one could stand in the person's slate."""
    check_village(village)
    if not is_list(thing) or len(thing) != 3 or not is_slates(village, thing[0]):
        return False
    if not is_one_of(village.people(), thing[1]):
        return False
    return is_number(thing[2]) and thing[2] <= len(village.friends(thing[1]))


def porch_people(village, porch):
    """The list of those of whom the person of a porch would tell there."""
    check_porch(village, porch)
    slates, person, place = porch
    told = heard_by_way_of(slates, person, slates[person][:place])
    return [one for one in village.people() if one in told]


def porch_gift(village, porch):
    """How many news those have of whom the person of a porch would tell there."""
    people = porch_people(village, porch)
    news = own_news(village)
    return sum([news[person] for person in people])


def gainers(village, porch):
    """The list of those to whom goes on what the person of a porch is told there."""
    check_porch(village, porch)
    slates, person, place = porch
    # turned about, what comes from the friends behind comes from just those to whom it goes
    told = heard_by_way_of(turned(village, slates), person, slates[person][place:])
    return [one for one in village.people() if one in told]


def joined(first, second, porch, entry):
    """The village of the people of both, in which the persons of two porches are friends, too."""
    check_joined(first, second, porch, entry)
    return Village(first.people() + second.people(), first.ties() + second.ties() + [(porch[1], entry[1])],
                   first.news() + second.news())


def joined_slates(first, second, porch, entry):
    """The slates of the joined village: both as they are, with the new meeting at both places."""
    check_joined(first, second, porch, entry)
    found = {}
    for village, one, other in ((first, porch, entry), (second, entry, porch)):
        slates, person, place = one
        for another in village.people():
            found[another] = list(slates[another])
        found[person].insert(place, other[1])
    return found


def parted(village, one, other):
    """The pair of villages that are left without the tie of two friends, the first one's first."""
    check_village(village)
    check_friends(village, one, other)
    return part_of(village, village.behind(other, one)), part_of(village, village.behind(one, other))


def porches_of(village, slates, one, other):
    """The pair of the porches of two friends in the parted villages, with what is left of the slates."""
    check_slates(village, slates)
    check_friends(village, one, other)
    return porch_left(village, slates, one, other), porch_left(village, slates, other, one)


def between(village, one, other, name):
    """The village in which a new one is the friend of two friends in the place of their tie."""
    check_between(village, one, other, name)
    ties = []
    for tie in village.ties():
        ties = ties + ([(one, name), (name, other)] if tie in ((one, other), (other, one)) else [tie])
    return Village(village.people() + [name], ties, village.news() + [1])


def between_slates(village, slates, one, other, name):
    """The slates of the village with a new one between two friends, who meets the first of them first."""
    check_slates(village, slates)
    check_between(village, one, other, name)
    found = {person: list(slates[person]) for person in village.people()}
    found[one][found[one].index(other)] = name
    found[other][found[other].index(one)] = name
    found[name] = [one, other]
    return found


def check_porch(village, porch):
    """Raises BadVillage, BadPorch."""
    if not is_porch(village, porch):
        raise BadPorch(porch)


def check_joined(first, second, porch, entry):
    """Raises BadVillage of both, BadPorch of both, CommonPerson."""
    check_village(first)
    check_village(second)
    check_porch(first, porch)
    check_porch(second, entry)
    others = second.people()
    for person in first.people():
        if person in others:
            raise CommonPerson(person)


def check_between(village, one, other, name):
    """Raises BadVillage, NoPerson of one, of other, NotFriends, BadName."""
    check_village(village)
    check_friends(village, one, other)
    if not is_name(name) or name in village.people():
        raise BadName(name)


def part_of(village, people):
    """The village of some people who hang together, people and ties in order."""
    news = own_news(village)
    ties = [tie for tie in village.ties() if tie[0] in people and tie[1] in people]
    return Village(people, ties, [news[person] for person in people])


def porch_left(village, slates, one, other):
    """The porch of one in what is left on their side without their tie with other."""
    left = {person: list(slates[person]) for person in village.behind(other, one)}
    place = left[one].index(other)
    left[one].remove(other)
    return left, one, place
