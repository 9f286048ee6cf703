"""Timetables for the tests: drawn ones, all of a short week, and what is known by letting evening follow evening."""

import itertools

from tests import helper


def all_timetables(village, week):
    """All timetables of a week, by going through all dicts from ties to its days."""
    rows = itertools.product(range(week), repeat=len(village.ties()))
    return [days for days in (dict(zip(village.ties(), row)) for row in rows)
            if all(days[x] != days[y] for x, y in itertools.combinations(days, 2) if set(x) & set(y))]


def drawn_timetable(village, week, drawn):
    """A timetable of a week that has a day for each of anybody's friends."""
    at = {}
    done = [village.people()[0]]
    near = helper.friends(village)
    for person in done:
        taken = {at[person, friend] for friend in near[person] if (person, friend) in at}
        for friend in near[person]:
            if (person, friend) not in at:
                day = drawn.choice([day for day in range(week) if day not in taken]) if week < 1000 else -1
                while day < 0 or day in taken:
                    day = drawn.randrange(week)
                taken.add(day)
                at[person, friend] = at[friend, person] = day
                done.append(friend)
    return {tie: at[tie] for tie in village.ties()}


def evenings(village, week, timetable, days, missed=()):
    """For each evening of so many days the dict from people to what day of whom they know, as it comes to them."""
    gone = {(meeting, number) for meeting, number in missed} | {(meeting[::-1], number) for meeting, number in missed}
    knows = {person: {} for person in village.people()}
    found = []
    for day in range(days):
        for person in village.people():
            knows[person] = {**knows[person], person: day}
        for one, other in village.ties():
            if timetable[one, other] == day % week and ((one, other), day // week) not in gone:
                both = {who: max(knows[one].get(who, -1), knows[other].get(who, -1))
                        for who in knows[one].keys() | knows[other].keys()}
                knows[one], knows[other] = both, dict(both)
        found.append(dict(knows))
    return found


def delay_by_gaps(village, week, timetable, one, other):
    at = {pair: day for tie, day in timetable.items() for pair in (tie, tie[::-1])}
    way = helper.way(village, other, one)
    return sum((at[person, behind] - at[person, ahead]) % week for ahead, person, behind in zip(way, way[1:], way[2:]))
