"""Plans within so many days, with at most so many meetings on one day: JUST ONE of a plan and too many."""

from heardsince.checks import is_integer
from heardsince.days import check_days
from heardsince.errors import BadMost
from heardsince.villages import check_village, inward_from, toward_from


def plan_within(village, days, most):
    """A plan within so many days, with at most so many meetings on one day, None if there is none."""
    if too_many(village, days, most) is not None:
        return None
    fewest = least_days(village, most)
    plan = any_plan(village, fewest)
    crowded = crowded_day(plan, most)
    while crowded is not None:
        empty = min(list(range(1, fewest + 1)), key=lambda day: meetings_on(plan, day))
        plan = with_row_turned(village, plan, crowded, empty)
        crowded = crowded_day(plan, most)
    return plan


def too_many(village, days, most):
    """None, or what is too many: a person's friends for the days, or all meetings for the days with so many each."""
    check_village(village)
    check_days(days)
    check_most(most)
    for person in village.people():
        if len(village.friends(person)) > days:
            return ("friends", person)
    if most is not None and len(village.ties()) > days * most:
        return ("meetings", len(village.ties()))
    return None


def least_days(village, most):
    """The least number of days with a plan, at most so many meetings being on one day."""
    check_village(village)
    check_most(most)
    friends = max([len(village.friends(person)) for person in village.people()])
    if most is None:
        return friends
    return max(friends, (len(village.ties()) + most - 1) // most)


def check_most(most):
    """Raises BadMost."""
    if most is not None and (not is_integer(most) or most < 1):
        raise BadMost(most)


def any_plan(village, days):
    """A plan within so many days, which are as many as anybody has friends, or more."""
    inward = inward_from(village, village.people()[0])
    found = {}
    for person in inward:
        taken = found.get((inward[person], person), 0)
        left = [day for day in range(1, days + 1) if day != taken]
        further = [friend for friend in village.friends(person) if friend != inward[person]]
        for friend, day in zip(further, left):
            found[(person, friend)] = day
    return {(one, other): found[(one, other)] if (one, other) in found else found[(other, one)]
            for one, other in village.ties()}


def meetings_on(plan, day):
    """How many meetings a plan has on a day."""
    return list(plan.values()).count(day)


def crowded_day(plan, most):
    """The day with most meetings, None if they are not too many."""
    if most is None or len(plan) == 0:
        return None
    crowded = max(list(plan.values()), key=lambda day: meetings_on(plan, day))
    if meetings_on(plan, crowded) <= most:
        return None
    return crowded


def with_row_turned(village, plan, crowded, empty):
    """A plan in which both days are exchanged in a row of their meetings that has one more on the crowded one."""
    beside = {person: [] for person in village.people()}
    for one, other in plan:
        if plan[(one, other)] in (crowded, empty):
            beside[one].append(other)
            beside[other].append(one)
    for person in village.people():
        row = toward_from(beside, person)
        days = [plan[tie] for tie in plan if tie[0] in row and plan[tie] in (crowded, empty)]
        # of two days together there are such rows, as the crowded one has two meetings more than the empty one
        if days.count(crowded) > days.count(empty):
            about = {crowded: empty, empty: crowded}
            return {tie: about.get(plan[tie], plan[tie]) if tie[0] in row else plan[tie] for tie in plan}
    return plan
