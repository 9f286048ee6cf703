"""Which meetings must be put elsewhere that slates become other ones, and which can stay."""

from heardsince.calendars import check_slates
from heardsince.errors import BadCosts
from heardsince.meetingdays import both_ways
from heardsince.villages import first_bad_amount, inward_from


def fewest_moved(village, one, other, prices):
    """The least sum of prices of meetings that are put elsewhere such that slates one become slates other."""
    kept = kept_meetings(village, one, other, prices)
    return sum([price for tie, price in zip(village.ties(), prices) if tie not in kept])


def kept_meetings(village, one, other, prices):
    """The list of the meetings that stay where those that are put elsewhere cost least."""
    check_slates(village, one)
    check_slates(village, other)
    check_costs(village, prices)
    inward = inward_from(village, village.people()[0])
    rows = staying_rows(village, inward, one, other, prices)
    kept = {}
    for person in inward:
        # whether the meeting with the friend further in stays is settled by now, as near ones stand first
        stays = (inward[person], person) in kept
        for friend in rows[(person, stays)]:
            kept[(person, friend)] = True
    return [tie for tie in village.ties() if tie in kept or (tie[1], tie[0]) in kept]


def check_costs(village, prices):
    """Raises BadCosts."""
    index = first_bad_amount(len(village.ties()), prices, 0)
    if index is not None:
        raise BadCosts(index)


def staying_rows(village, inward, one, other, prices):
    """The dict from pairs (person, stays) to the list of friends behind whose meetings stay at the best.

    stays tells whether the person's meeting with the friend further in stays.
    """
    costs = both_ways(dict(zip(village.ties(), prices)))
    # what is saved by a person's row, beside the most that is saved behind if nothing stays with the person
    worth = {}
    rows = {}
    for person in reversed(list(inward)):
        nearer = inward[person]
        # what it is worth that the meeting with a friend stays, beside what it spoils behind
        more = {friend: costs[(person, friend)] + worth[(friend, True)] - worth[(friend, False)]
                for friend in one[person] if friend != nearer}
        useful = [friend for friend in more if more[friend] > 0]
        places = {friend: place for place, friend in enumerate(other[person])}
        worth[(person, False)], rows[(person, False)] = best_row(useful, places, more)
        if nearer is not None:
            ahead = one[person][:one[person].index(nearer)]
            beside = [friend for friend in useful if (friend in ahead) == (places[friend] < places[nearer])]
            worth[(person, True)], rows[(person, True)] = best_row(beside, places, more)
    return rows


def best_row(friends, places, worth):
    """The pair (worth, row) of the row of friends, in their order, worth most, whose places rise."""
    best = (0, [])
    ends = []
    for friend in friends:
        total = 0
        row = []
        for more, longer in ends:
            if places[longer[-1]] < places[friend] and more > total:
                total = more
                row = longer
        ends.append((total + worth[friend], row + [friend]))
        if ends[-1][0] > best[0]:
            best = ends[-1]
    return best
