"""Plans, days of all meetings with no two on one day for anybody, and chains, that tell how many days are needed."""

from heardsince.calendars import check_slates, meeting_place, tie_places
from heardsince.checks import is_integer, is_list, is_number
from heardsince.errors import BadDays, BadPlan
from heardsince.meetingdays import are_unlike_at_each, by_ties, chain_to, earliest, just_ahead, slates_by
from heardsince.tables import turned
from heardsince.villages import check_village


def is_plan(village, thing):
    """Whether a thing is a dict from just all meetings to days, nobody having two meetings on one day."""
    check_village(village)
    return plan_by_ties(village, thing) is not None


def slates_of_plan(village, plan):
    """The slates by rising days."""
    check_village(village)
    days = plan_by_ties(village, plan)
    if days is None:
        raise BadPlan(plan)
    return slates_by(village, days)


def is_chain(village, slates, thing):
    """Whether a thing is a list of one or more meetings, each held behind the one ahead at a person of both."""
    check_slates(village, slates)
    places = tie_places(village.ties())
    if not is_list(thing) or len(thing) == 0 or None in [meeting_place(places, meeting) for meeting in thing]:
        return False
    return all([is_behind(slates, ahead, behind) for ahead, behind in zip(thing, thing[1:])])


def first_days(village, slates):
    """The plan with these slates that has each meeting as early as can be."""
    check_slates(village, slates)
    found = earliest(just_ahead(village, slates), next_day)
    return {tie: found[tie] for tie in village.ties()}


def fewest_days(village, slates):
    """How many days these slates need."""
    return max([0] + list(first_days(village, slates).values()))


def longest_chain(village, slates):
    """A chain of most meetings, [] without any."""
    days = first_days(village, slates)
    if len(days) == 0:
        return []
    last = max(village.ties(), key=lambda tie: days[tie])
    return chain_to(just_ahead(village, slates), next_day, days, last)


def last_days(village, slates, days):
    """The plan with these slates within so many days that has each meeting as late as can be, None if there is none."""
    check_slates(village, slates)
    check_days(days)
    if fewest_days(village, slates) > days:
        return None
    # seen from the end, slates turned about begin
    about = first_days(village, turned(village, slates))
    return {tie: days + 1 - about[tie] for tie in about}


def tight(village, slates):
    """The list of the meetings that have one and the same day in all plans within as few days as can be."""
    first = first_days(village, slates)
    last = last_days(village, slates, fewest_days(village, slates))
    return [tie for tie in first if first[tie] == last[tie]]


def check_days(days):
    """Raises BadDays."""
    if not is_number(days):
        raise BadDays(days)


def plan_by_ties(village, thing):
    """The days of a plan by ties, None for what is no plan."""
    days = by_ties(village.ties(), thing)
    if days is None or not all([is_integer(day) and day >= 1 for day in days.values()]):
        return None
    if not are_unlike_at_each(village, days):
        return None
    return days


def next_day(tie, ahead):
    """The first day of a tie behind the days of those right ahead of it."""
    return max([0] + ahead) + 1


def is_behind(slates, ahead, behind):
    """Whether a meeting is held behind another one at a person whom both have."""
    for person, friend in ((ahead[0], ahead[1]), (ahead[1], ahead[0])):
        if person in behind:
            later = behind[1] if behind[0] == person else behind[0]
            # one meeting with itself has two such people, but is behind at none
            if slates[person].index(friend) < slates[person].index(later):
                return True
    return False
