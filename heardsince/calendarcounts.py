"""Of all calendars with told slates: how many there are, where meetings stand, and which are surely held ahead."""

from math import comb, gcd

from heardsince.calendars import check_slates, meeting_place, tie_places
from heardsince.errors import BadMeeting, SameMeeting
from heardsince.villages import toward_from


def count_calendars(village, slates):
    """How many calendars have these slates."""
    check_slates(village, slates)
    return count_orders(links_of(village, slates))


def place_counts(village, slates, meeting):
    """The dict, ascending, from the places of a meeting to in how many calendars it has them."""
    place = checked_place(village, slates, meeting)
    counts = counts_by_place(links_of(village, slates), place)
    return {at: many for at, many in enumerate(counts) if many > 0}


def mean_place(village, slates, meeting):
    """The mean, a fraction, of the places of a meeting over all calendars."""
    place = checked_place(village, slates, meeting)
    counts = counts_by_place(links_of(village, slates), place)
    return fraction(sum([at * many for at, many in enumerate(counts)]), sum(counts))


def ahead_word(village, slates, one, other):
    """The word that tells whether one meeting is held ahead of another one in all calendars, in none, or in some."""
    first, second = checked_two(village, slates, one, other)
    links = links_of(village, slates)
    if second in reached(links, first, True):
        return "always"
    if second in reached(links, first, False):
        return "never"
    return "sometimes"


def surely_ahead(village, slates, meeting):
    """The list of the meetings that are always held ahead of a meeting."""
    place = checked_place(village, slates, meeting)
    return ties_reached(village, slates, place, False)


def surely_behind(village, slates, meeting):
    """The list of the meetings that are always held behind a meeting."""
    place = checked_place(village, slates, meeting)
    return ties_reached(village, slates, place, True)


def ahead_chance(village, slates, one, other):
    """The chance, a fraction, that one meeting is held ahead of another one, each calendar being as likely."""
    first, second = checked_two(village, slates, one, other)
    links = links_of(village, slates)
    return fraction(count_ahead(links, first, second), count_orders(links))


def checked_place(village, slates, meeting):
    """The place of a meeting in village.ties(); raises BadVillage, BadSlates, BadMeeting."""
    check_slates(village, slates)
    place = meeting_place(tie_places(village.ties()), meeting)
    if place is None:
        raise BadMeeting(meeting)
    return place


def checked_two(village, slates, one, other):
    """The places of two meetings; raises BadVillage, BadSlates, BadMeeting of one, of other, SameMeeting."""
    first = checked_place(village, slates, one)
    second = checked_place(village, slates, other)
    if first == second:
        raise SameMeeting(other)
    return first, second


def links_of(village, slates):
    """The dict from the places of meetings to the dicts from those next to them in a slate to whether these are behind.

    Links join all meetings and make no ring, as ties join all people and make none.
    """
    places = tie_places(village.ties())
    links = {place: {} for place in range(len(village.ties()))}
    for person in slates:
        row = [places[(person, friend)] for friend in slates[person]]
        for ahead, behind in zip(row, row[1:]):
            links[ahead][behind] = True
            links[behind][ahead] = False
    return links


def counts_by_place(links, root):
    """The list, by the place of root, of in how many orders all that are joined to it can come."""
    toward = toward_from(links, root)
    counts = {meeting: [1] for meeting in toward}
    for meeting in reversed(list(toward)):
        nearer = toward[meeting]
        if nearer is not None:
            counts[nearer] = mixed(counts[nearer], counts[meeting], links[nearer][meeting])
    return counts[root]


def mixed(counts, others, behind):
    """The counts by the place of one meeting, if what others count is put among what was there, in all ways.

    The meeting of others comes behind this one if behind is True, else ahead.
    """
    found = [0 for many in range(len(counts) + len(others))]
    for first in range(len(others) + 1):
        # so many of the others are put ahead of this meeting
        right = sum(others[first:]) if behind else sum(others[:first])
        for place, many in enumerate(counts):
            ways = comb(place + first, first) * comb(len(counts) - 1 - place + len(others) - first, len(others) - first)
            found[place + first] += many * right * ways
    return found


def count_orders(links):
    """In how many orders meetings can come, however many parts the links leave them in."""
    many = 1
    joined = {}
    for meeting in links:
        if meeting not in joined:
            counts = counts_by_place(links, meeting)
            for one in toward_from(links, meeting):
                joined[one] = True
            many *= sum(counts) * comb(len(joined), len(counts))
    return many


def count_ahead(links, one, other):
    """In how many orders one meeting comes ahead of another one, all being joined by links."""
    toward = toward_from(links, other)
    many = 0
    sign = 1
    here = one
    while here != other:
        following = toward[here]
        if not links[here][following]:
            # a link against the way: the orders without it, less those in which it is turned about
            many += sign * count_orders(with_link(without_link(links, here, following), one, other))
            sign = -sign
            links = with_link(links, here, following)
        here = following
    # now all links on the way lead on, so that one surely comes ahead of other
    return many + sign * count_orders(links)


def without_link(links, one, other):
    """Links but that between two meetings."""
    return {meeting: {near: links[meeting][near] for near in links[meeting]
                      if not (meeting == one and near == other) and not (meeting == other and near == one)}
            for meeting in links}


def with_link(links, one, other):
    """Links with one by which one meeting comes ahead of another one, in the place of what was between them."""
    linked = without_link(links, one, other)
    linked[one][other] = True
    linked[other][one] = False
    return linked


def reached(links, meeting, behind):
    """The dict of True from all meetings to which links lead, all of them behind, or all ahead."""
    found = {}
    steps = [meeting]
    while len(steps) > 0:
        here = steps.pop()
        for one in links[here]:
            if links[here][one] == behind and one not in found:
                found[one] = True
                steps.append(one)
    return found


def ties_reached(village, slates, place, behind):
    """The list of the ties that are always held behind a meeting, or always ahead of it."""
    found = reached(links_of(village, slates), place, behind)
    return [tie for at, tie in enumerate(village.ties()) if at in found]


def fraction(top, bottom):
    """The pair (top, bottom) without a common divisor."""
    shared = gcd(top, bottom)
    return (top // shared, bottom // shared)
