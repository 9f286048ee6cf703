"""Meetings held outside their spans: what it costs that a person hears of all, and off pairs worth as much."""

from heardsince.calendars import meeting_place, tie_places
from heardsince.checks import is_list
from heardsince.hearing import dates_and_slates
from heardsince.meetingdays import both_ways, tie_names
from heardsince.spans import checked_spans
from heardsince.villages import check_person, inward_from


def least_off(village, spans, person):
    """What it costs at the least that a person hears of everybody."""
    within = checked_spans(village, spans)
    check_person(village, person)
    return worth_in(within, pairs_in(village, within, person))


def off_dates(village, spans, person):
    """A pair (dates, slates) that costs as little as can be, by which a person has heard of all."""
    within = checked_spans(village, spans)
    check_person(village, person)
    inward = inward_from(village, person)
    best = best_and_near(village, within, inward)[0]
    dates = {}
    for other in list(inward)[1:]:
        door = (other, inward[other])
        # towards the person dates must not fall
        dates[door] = min(best[other], dates.get((door[1], inward[door[1]]), best[other]))
    return dates_and_slates(village, inward, dates, 1)


def off_pairs(village, spans, person):
    """A list of off pairs of greatest worth, [] if there are none."""
    within = checked_spans(village, spans)
    check_person(village, person)
    return pairs_in(village, within, person)


def worth_of(village, spans, person, thing):
    """The worth of off pairs, None for what is none."""
    within = checked_spans(village, spans)
    check_person(village, person)
    pairs = pairs_as_told(village, thing)
    if pairs is None:
        return None
    meetings = [meeting for pair in pairs for meeting in pair]
    if len(set(meetings)) < len(meetings):
        return None
    inward = inward_from(village, person)
    if not all([are_off(within, inward, far, near) for far, near in pairs]):
        return None
    return worth_in(within, pairs)


def worth_in(within, pairs):
    """The sum of how much, in each pair, the first date of far is above the last one of near."""
    return sum([within[far][0] - within[near][1] for far, near in pairs])


def pairs_as_told(village, thing):
    """A list of pairs of meetings, as the village has them; None for what is none."""
    places = tie_places(village.ties())
    if not is_list(thing):
        return None
    for pair in thing:
        if not is_list(pair) or len(pair) != 2 or None in [meeting_place(places, meeting) for meeting in pair]:
            return None
    names = tie_names(village.ties())
    return [(names[(far[0], far[1])], names[(near[0], near[1])]) for far, near in thing]


def are_off(within, inward, far, near):
    """Whether far is further away than near on one way to the middle of inward, and too late for it."""
    here = inward[outer_of(inward, far)]
    while inward[here] is not None and not (here in near and inward[here] in near):
        here = inward[here]
    return inward[here] is not None and within[far][0] > within[near][1]


def outer_of(inward, tie):
    """The one of a tie's people who is further away from the middle."""
    return tie[0] if inward[tie[0]] == tie[1] else tie[1]


def pairs_in(village, within, person):
    """The list of off pairs of greatest worth, in the order of the far ones in the ties."""
    inward = inward_from(village, person)
    near_of = best_and_near(village, within, inward)[1]
    for far in list(near_of):
        # who would be near in one pair and far in another one is left out: both pairs make one of the same worth
        while far in near_of and near_of[far] in near_of:
            between = near_of[far]
            near_of[far] = near_of[between]
            del near_of[between]
    names = tie_names(village.ties())
    pairs = {names[(far, inward[far])]: names[(near_of[far], inward[near_of[far]])] for far in near_of}
    return [(tie, pairs[tie]) for tie in village.ties() if tie in pairs]


def best_and_near(village, within, inward):
    """Two dicts: from all but the middle to the date best for their door and all behind; from far ones to near ones.

    People stand for their doors inward. Of those behind a door are kept, each with who is far by it, the dates below
    which the cost would grow: by one a day for each. Where one is above the door's last date it costs the difference,
    and this last date takes its place.
    """
    at = both_ways(within)
    kept = {other: [] for other in inward}
    best = {}
    near_of = {}
    for other in reversed(list(inward)[1:]):
        first, last = at[(other, inward[other])]
        dates = kept[other] + [(first, other)]
        top, far = max(dates)
        if top > last:
            dates.remove((top, far))
            dates.append((last, far))
            near_of[far] = other
        best[other] = max(dates)[0]
        kept[inward[other]] = kept[inward[other]] + dates
    return best, near_of
