"""Gaps, from each meeting of a person to each other one: JUST ONE of a timetable with them and a clash."""

from heardsince.checks import is_dict_of, is_integer
from heardsince.clashes import pairs_in_order
from heardsince.meetingdays import both_ways
from heardsince.refusals import BadGaps
from heardsince.timetables import check_week, checked_timetable
from heardsince.villages import check_village, inward_from


def gaps_of(village, week, timetable):
    """The gaps of a timetable."""
    at = both_ways(checked_timetable(village, week, timetable))
    return {(x, person, y): (at[(person, y)] - at[(person, x)]) % week for x, person, y in friend_triples(village)}


def timetable_of(village, week, gaps):
    """The timetable with these gaps in which the first tie is met on day 0, None if there is none."""
    if gap_clash(village, week, gaps) is not None:
        return None
    ties = village.ties()
    if len(ties) == 0:
        return {}
    days = {ties[0]: 0, (ties[0][1], ties[0][0]): 0}
    for person in inward_from(village, ties[0][0]):
        # near ones stand first, so one meeting of each is known by now
        known = [friend for friend in village.friends(person) if (person, friend) in days][0]
        for friend in village.friends(person):
            if friend != known:
                day = (days[(person, known)] + gaps[(known, person, friend)]) % week
                days[(person, friend)] = day
                days[(friend, person)] = day
    return {tie: days[tie] for tie in ties}


def gap_clash(village, week, gaps):
    """None, or the first two or three friends of a person whose gaps go round in no weeks that can be."""
    check_gaps(village, week, gaps)
    for person in village.people():
        clash = clash_at(person, village.friends(person), week, gaps)
        if clash is not None:
            return clash
    return None


def check_gaps(village, week, gaps):
    """Raises BadVillage, BadWeek, BadGaps."""
    check_village(village)
    check_week(week)
    triples = friend_triples(village)
    if not is_dict_of(triples, gaps) or not all([is_integer(gaps[triple]) and 1 <= gaps[triple] < week
                                                 for triple in triples]):
        raise BadGaps(gaps)


def friend_triples(village):
    """The list of all triples (x, person, y), x and y unlike friends of a person, by person, x, y."""
    return [(x, person, y) for person in village.people() for x in village.friends(person)
            for y in village.friends(person) if x != y]


def clash_at(person, friends, week, gaps):
    """The first clash at a person, pairs of friends ahead of threes, None if there is none."""
    for x, y in pairs_in_order(friends):
        if gaps[(x, person, y)] + gaps[(y, person, x)] != week:
            return ("pair", person, x, y)
    for x, y in pairs_in_order(friends):
        for z in friends[friends.index(y) + 1:]:
            if gaps[(x, person, y)] + gaps[(y, person, z)] + gaps[(z, person, x)] not in (week, 2 * week):
                return ("three", person, x, y, z)
    return None
