"""The fewest sayings that leave just one's slates, and first seams, no two of which one saying covers."""

from heardsince.calendars import check_slates
from heardsince.observers import seams
from heardsince.refusals import NotHeard
from heardsince.sayings import check_sayings, fits
from heardsince.threads import thread_from


def fewest_sayings(village, slates):
    """A list of as few sayings as can be that leave just these slates."""
    return [(row[-1], row[0], True) for row in long_threads(village, slates)]


def first_seams(village, slates):
    """The list of the first seam on each thread of two doors or more."""
    return [(row[1], row[0], row[2]) for row in long_threads(village, slates)]


def leaves_one(village, slates, sayings):
    """Whether sayings, all of them that somebody has heard, leave just these slates."""
    check_slates(village, slates)
    check_sayings(village, sayings)
    for index, (one, other, heard) in enumerate(sayings):
        if not heard:
            raise NotHeard(index)
    if not fits(village, slates, sayings):
        return False
    covered = {}
    for one, other, heard in sayings:
        way = village.way(other, one)
        for ahead, person, behind in zip(way, way[1:], way[2:]):
            covered[(person, ahead, behind)] = True
    return all([seam in covered for seam in seams(village, slates)])


def long_threads(village, slates):
    """The list of the threads of two doors or more, in the village's order; raises BadVillage, BadSlates."""
    check_slates(village, slates)
    rows = [thread_from(slates, person) for person in village.people()]
    return [row for row in rows if len(row) > 2]
