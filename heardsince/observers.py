"""Observers, who put their views together: what they know of slates, and the fewest who know all."""

from heardsince.calendars import check_slates, heard_from, told_from
from heardsince.checks import first_wrong, is_list
from heardsince.errors import BadLot
from heardsince.lotsapart import fewest_and_apart
from heardsince.refusals import BadSeam
from heardsince.tables import turned
from heardsince.views import chance_by_ranks, count_by_ranks, view
from heardsince.villages import check_two, inward_from


def stretches(village, slates, lot):
    """The dict from all people to the lists, in the order of their slates, of their stretches."""
    check_observers(village, slates, lot)
    marked = marked_by(village, slates, lot)
    people = village.people()
    found = {}
    for person in people:
        rows = []
        ahead = None
        for friend in slates[person]:
            if ahead is None or (person, friend) in marked or (person, ahead) in marked:
                rows.append([])
            rows[-1].append(friend)
            ahead = friend
        found[person] = [[one for one in people if one in row] for row in rows]
    return found


def are_alike_for(village, slates, others, lot):
    """Whether by slates and by others all observers have the same views."""
    check_slates(village, slates)
    check_observers(village, others, lot)
    return all([view(village, slates, person) == view(village, others, person) for person in lot])


def count_alike(village, slates, lot):
    """How many slates are alike for the observers to these."""
    return count_by_ranks(village, ranks_known(village, slates, lot))


def known_chance(village, slates, lot, one, other):
    """In what part of all slates that are alike for the observers to these one has heard of other, a fraction."""
    ranks = ranks_known(village, slates, lot)
    check_two(village, one, other)
    return chance_by_ranks(ranks, village.way(other, one))


def seams(village, slates):
    """The list of all seams: triples of a person and two friends who stand next to one another in the person's slate.
    """
    check_slates(village, slates)
    return [(person, ahead, behind) for person in village.people()
            for ahead, behind in zip(slates[person], slates[person][1:])]


def seers(village, slates, seam):
    """The list of those who see a seam."""
    every = seams(village, slates)
    if not is_list(seam) or tuple(seam) not in every:
        raise BadSeam(seam)
    seeing = seeing_ones(turned(village, slates), seam)
    return [person for person in village.people() if person in seeing]


def knows_all(village, slates, lot):
    """Whether each seam is seen by an observer."""
    check_observers(village, slates, lot)
    return all([any([person in seeing for person in lot]) for seeing in all_seeing(village, slates)])


def fewest_observers(village, slates):
    """A lot that knows all, with as few people as can be."""
    return fewest_and_apart(village, all_seeing(village, slates))[0]


def apart_seams(village, slates):
    """A list of seams no two of which anybody sees, with as many as can be."""
    places = fewest_and_apart(village, all_seeing(village, slates))[1]
    every = seams(village, slates)
    return [every[place] for place in places]


def fewest_hearers(village, slates):
    """A lot of as few as can be who together have heard of everybody."""
    return fewest_and_apart(village, all_hearing(village, slates))[0]


def apart_people(village, slates):
    """A lot of as many as can be no two of whom anybody has heard of."""
    places = fewest_and_apart(village, all_hearing(village, slates))[1]
    people = village.people()
    return [people[place] for place in places]


def check_lot(village, lot):
    """Raises BadLot for what is no list of unlike people, perhaps of none."""
    index = first_wrong(village.people(), lot)
    if index is not None:
        raise BadLot(index)


def check_observers(village, slates, lot):
    """Raises BadVillage, BadSlates, BadLot."""
    check_slates(village, slates)
    check_lot(village, lot)


def marked_by(village, slates, lot):
    """The dict of True from pairs (person, friend) such that the observers know just when the person met the friend."""
    marked = {}
    for observer in lot:
        for friend in slates[observer]:
            marked[(observer, friend)] = True
        inward = inward_from(village, observer)
        for person in heard_from(slates, observer):
            if person != observer:
                marked[(person, inward[person])] = True
    return marked


def ranks_known(village, slates, lot):
    """The dict from pairs (person, friend) to the place of the friend's stretch; raises BadVillage, BadSlates, BadLot.
    """
    found = stretches(village, slates, lot)
    return {(person, friend): place for person in found
            for place, row in enumerate(found[person]) for friend in row}


def seeing_ones(about, seam):
    """The dict of True from those who see a seam; about are the slates turned about."""
    person, ahead, behind = seam
    found = {person: True}
    # turned about, what a friend tells a person comes from just those who hear through that friend
    for friend in (ahead, behind):
        for one in told_from(about, friend, person):
            found[one] = True
    return found


def all_seeing(village, slates):
    """The list, by the seams, of dicts of True from those who see them; raises BadVillage, BadSlates."""
    about = turned(village, slates)
    return [seeing_ones(about, seam) for seam in seams(village, slates)]


def all_hearing(village, slates):
    """The list, by the people, of dicts of True from those who have heard of them; raises BadVillage, BadSlates."""
    about = turned(village, slates)
    return [heard_from(about, person) for person in village.people()]
