"""Only some have to hear of some: the heart, slates within so many rounds, JUST ONE of them and a way in the heart."""

from heardsince.checks import first_wrong, is_some_of
from heardsince.errors import BadLot
from heardsince.meetingdays import friends_by
from heardsince.rounds import check_rounds
from heardsince.villages import check_village, doors_inward, toward_from


def heart(village, hearers, tellers):
    """The list of the ties both of whose sides have a hearer and a teller."""
    check_lots(village, hearers, tellers)
    return [tie for tie in village.ties() if is_inner(village, hearers, tellers, tie)]


def slates_for(village, hearers, tellers, rounds):
    """Slates by which behind so many rounds each hearer has heard of each teller, None if there are none."""
    check_lots(village, hearers, tellers)
    check_rounds(rounds, 1)
    if rounds < least_rounds_for(village, hearers, tellers):
        return None
    ranks = ranks_at_doors(village, hearers, tellers)
    return {person: friends_by(village.friends(person), ranks, person) for person in village.people()}


def heart_way(village, hearers, tellers, rounds):
    """A way in the heart of twice as many doors as rounds, or more; None if there is none."""
    check_lots(village, hearers, tellers)
    check_rounds(rounds, 1)
    way = longest_way(beside_in(village, heart(village, hearers, tellers)))
    if len(way) - 1 < 2 * rounds:
        return None
    return way


def is_heart_way(village, hearers, tellers, rounds, thing):
    """Whether a thing is a way in the heart of twice as many doors as rounds, or more."""
    check_lots(village, hearers, tellers)
    check_rounds(rounds, 1)
    if not is_some_of(village.people(), thing) or len(thing) - 1 < 2 * rounds:
        return False
    beside = beside_in(village, heart(village, hearers, tellers))
    # without rings, unlike people each next to the one ahead are a way
    return all([further in beside[one] for one, further in zip(thing, thing[1:])])


def least_rounds_for(village, hearers, tellers):
    """The least number of rounds with slates by which each hearer has heard of each teller."""
    check_lots(village, hearers, tellers)
    if len(hearers) == 1 and len(tellers) == 1 and hearers[0] == tellers[0]:
        return 0
    return 1 + (len(longest_way(beside_in(village, heart(village, hearers, tellers)))) - 1) // 2


def check_lots(village, hearers, tellers):
    """Raises BadVillage, BadLot of hearers, of tellers."""
    check_village(village)
    check_full_lot(village, hearers)
    check_full_lot(village, tellers)


def check_full_lot(village, lot):
    """Raises BadLot for what is no list of one or more unlike people."""
    check_one_or_more(village.people(), lot)


def check_one_or_more(people, lot):
    """Raises BadLot for what is no list of one or more unlike ones of some people."""
    index = first_wrong(people, lot)
    if index is None and len(lot) == 0:
        index = 0
    if index is not None:
        raise BadLot(index)


def is_inner(village, hearers, tellers, tie):
    """Whether both sides of a tie have a hearer and a teller."""
    one, other = tie
    return has_to_cross(village, hearers, tellers, one, other) and has_to_cross(village, hearers, tellers, other, one)


def has_to_cross(village, hearers, tellers, one, other):
    """Whether somebody on one's side has to hear of somebody behind other."""
    behind = village.behind(one, other)
    return any([teller in behind for teller in tellers]) and any([hearer not in behind for hearer in hearers])


def beside_in(village, ties):
    """The dict from all people to the lists of their friends by these ties, in the village's order."""
    known = {tie: True for tie in ties}
    return {person: [friend for friend in village.friends(person)
                     if (person, friend) in known or (friend, person) in known]
            for person in village.people()}


def longest_way(beside):
    """A longest way, one person alone if nobody is joined; all who are next to somebody hang together."""
    joined = [person for person in beside if len(beside[person]) > 0]
    start = (joined + list(beside))[0]
    # who is farthest from anybody is an end of a longest way
    toward = toward_from(beside, list(toward_from(beside, start))[-1])
    way = [list(toward)[-1]]
    while toward[way[-1]] is not None:
        way.append(toward[way[-1]])
    return way


def ranks_at_doors(village, hearers, tellers):
    """The dict from pairs (person, friend) to the rank of the friend in the person's slate.

    First stand the friends from whom something has to come, but nothing to go to, then those by doors of the heart,
    then all others. In the heart doors of odd depth come ahead of even ones.
    """
    inner = heart(village, hearers, tellers)
    beside = beside_in(village, inner)
    depths = depths_from_middle(beside)
    ranks = {}
    for person in village.people():
        for friend in village.friends(person):
            if friend in beside[person]:
                ranks[(person, friend)] = 1 if max(depths[person], depths[friend]) % 2 == 1 else 2
            elif has_to_cross(village, hearers, tellers, person, friend):
                ranks[(person, friend)] = 0
            else:
                ranks[(person, friend)] = 3
    return ranks


def depths_from_middle(beside):
    """The dict from those who are joined to how far from the middle of a longest way they are.

    Where a door is in the middle, both its people are, so that it has the depth 0.
    """
    way = longest_way(beside)
    one = doors_inward(toward_from(beside, way[(len(way) - 1) // 2]))
    other = doors_inward(toward_from(beside, way[len(way) // 2]))
    return {person: min(one[person], other[person]) for person in one}
