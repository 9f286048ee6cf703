"""Days on which people are away: left days, a plan or a crowd, and plans with told slates."""

from heardsince.calendars import check_slates
from heardsince.checks import is_integer, is_list, is_one_of, is_some_of
from heardsince.days import check_days
from heardsince.errors import BadAway
from heardsince.gifts import friend_pairs
from heardsince.matchings import matched, spared
from heardsince.meetingdays import chain_to, earliest, just_ahead
from heardsince.villages import check_person, check_village, inward_from


def left_days(village, away, days):
    """The dict from all pairs (one, other) of friends to the ascending lists of the left days of one with other."""
    barred = checked_away(village, away)
    check_days(days)
    pairs = friend_pairs(village)
    # what is left with a friend hangs on those behind alone
    inner = sorted(pairs, key=lambda pair: len(village.behind(pair[0], pair[1])))
    left = left_by_pairs(village, barred, days, inner)
    return {pair: left[pair] for pair in pairs}


def plan_away(village, away, days):
    """A plan within so many days by which nobody meets when they are away, None if there is none."""
    barred = checked_away(village, away)
    check_days(days)
    inward = inward_from(village, village.people()[0])
    left = left_toward(village, barred, days, village.people()[0])
    given = {}
    for person in inward:
        # the meeting with the friend further in was given its day by now, as near ones stand first
        held = given.get((inward[person], person), 0)
        wishes = {friend: [day for day in left[(person, friend)] if day != held]
                  for friend in village.friends(person) if friend != inward[person]}
        taken, together = matched(wishes)
        if taken is None:
            return None
        for day, friend in taken.items():
            given[(person, friend)] = day
            given[(friend, person)] = day
    return {tie: given[tie] for tie in village.ties()}


def crowd(village, away, days, person):
    """A list of friends of a person whose left days are together fewer than they are, None if there is none."""
    left = left_at(village, away, days, person)
    taken, together = matched(left)
    if taken is not None:
        return None
    return [friend for friend in left if friend in together]


def is_crowd(village, away, days, person, thing):
    """Whether a thing is a list of unlike friends of a person whose left days are together fewer than they are."""
    left = left_at(village, away, days, person)
    if not is_some_of(list(left), thing):
        return False
    return len(set([day for friend in thing for day in left[friend]])) < len(thing)


def least_days_away(village, away):
    """The least number of days with a plan by which nobody meets when they are away."""
    barred = checked_away(village, away)
    first = village.people()[0]
    # where each meeting takes the first day that is left to it, it passes by those away and by others of its people
    enough = max([0] + [len(village.friends(one)) + len(village.friends(other)) + len(barred[one]) + len(barred[other])
                        for one, other in village.ties()])
    few = 0
    while few < enough:
        days = (few + enough) // 2
        left = left_toward(village, barred, days, first)
        taken, together = matched({friend: left[(first, friend)] for friend in village.friends(first)})
        if taken is None:
            few = days + 1
        else:
            enough = days
    return few


def first_away(village, slates, away):
    """The plan with these slates by which nobody meets when they are away that has each meeting as early as can be."""
    check_slates(village, slates)
    barred = checked_away(village, away)
    found = earliest(just_ahead(village, slates), lambda tie, ahead: free_day(barred, tie, ahead))
    return {tie: found[tie] for tie in village.ties()}


def slow_chain(village, slates, away):
    """A chain that alone takes as long as all meetings do, [] without any."""
    days = first_away(village, slates, away)
    if len(days) == 0:
        return []
    barred = checked_away(village, away)
    last = max(village.ties(), key=lambda tie: days[tie])
    return chain_to(just_ahead(village, slates), lambda tie, ahead: free_day(barred, tie, ahead), days, last)


def checked_away(village, away):
    """The dict from all people to dicts of True from the days on which they are away; raises BadVillage, BadAway."""
    check_village(village)
    people = village.people()
    if not isinstance(away, dict) or not all([is_one_of(people, person) and is_days(away[person]) for person in away]):
        raise BadAway(away)
    return {person: {day: True for day in away.get(person, [])} for person in people}


def is_days(thing):
    """Whether a thing is a list of unlike integers from 1 on."""
    return is_list(thing) and all([is_integer(day) and day >= 1 for day in thing]) and len(set(thing)) == len(thing)


def left_at(village, away, days, person):
    """The dict from a person's friends to the left days of the person with each; raises the errors of crowd."""
    barred = checked_away(village, away)
    check_days(days)
    check_person(village, person)
    left = left_toward(village, barred, days, person)
    return {friend: left[(person, friend)] for friend in village.friends(person)}


def left_toward(village, barred, days, middle):
    """The dict from pairs (one, other) of friends, other further from middle, to the left days of one with other."""
    inward = inward_from(village, middle)
    return left_by_pairs(village, barred, days, [(inward[other], other) for other in reversed(list(inward)[1:])])


def left_by_pairs(village, barred, days, pairs):
    """The dict from pairs (one, other) to the left days of one with other; of those behind pairs must stand ahead."""
    left = {}
    for one, other in pairs:
        wishes = {friend: left[(other, friend)] for friend in village.friends(other) if friend != one}
        taken, together = matched(wishes)
        left[(one, other)] = []
        if taken is not None:
            spare = spared(wishes, taken)
            left[(one, other)] = [day for day in range(1, days + 1)
                                  if day not in barred[one] and day not in barred[other]
                                  and (day not in taken or day in spare)]
    return left


def free_day(barred, tie, ahead):
    """The first day behind those ahead on which neither of a tie is away."""
    day = max([0] + ahead) + 1
    while day in barred[tie[0]] or day in barred[tie[1]]:
        day += 1
    return day
