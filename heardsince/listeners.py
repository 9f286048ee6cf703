"""Sayings of one listener: of whom they have heard at the least and at the most, or two sayings that cannot both be."""

from heardsince.refusals import NotOneListener
from heardsince.sayings import check_sayings
from heardsince.villages import check_person, check_village


def known_sets(village, person, sayings):
    """None, or the pair (least, greatest) of lists: of whom a person has heard by all slates that fit, and by some."""
    if not_so(village, person, sayings) is not None:
        return None
    sure = {person: True}
    for friend in village.friends(person):
        sure[friend] = True
    gone = {}
    for one, other, heard in sayings:
        if heard:
            for known in village.way(person, other):
                sure[known] = True
        else:
            for barred in people_beyond(village, person, other):
                gone[barred] = True
    people = village.people()
    return [one for one in people if one in sure], [one for one in people if one not in gone]


def not_so(village, person, sayings):
    """None, or a pair: the index of the first saying that cannot be so, and None or that of one against it."""
    check_listener(village, person, sayings)
    for index, (one, other, heard) in enumerate(sayings):
        if not heard:
            if other == person or other in village.friends(person):
                return (index, None)
            contrary = first_heard(sayings, people_beyond(village, person, other))
            if contrary is not None:
                return (index, contrary)
    return None


def check_listener(village, person, sayings):
    """Raises BadVillage, NoPerson, BadSayings, NotOneListener."""
    check_village(village)
    check_person(village, person)
    check_sayings(village, sayings)
    for index, (one, other, heard) in enumerate(sayings):
        if one != person:
            raise NotOneListener(index)


def people_beyond(village, person, other):
    """The list of another one and all behind that one, from a person."""
    return village.behind(village.way(person, other)[-2], other)


def first_heard(sayings, people):
    """The index of the first saying that one of some people has been heard of, None if there is none."""
    for index, (one, other, heard) in enumerate(sayings):
        if heard and other in people:
            return index
    return None
