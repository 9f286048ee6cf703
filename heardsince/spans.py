"""Spans of dates between which meetings are held: JUST ONE of dates with told slates and a tight chain."""

from heardsince.calendars import check_slates
from heardsince.checks import is_number, is_span
from heardsince.errors import BadDates, BadSpans
from heardsince.meetingdays import both_ways, by_ties, chain_to, earliest, just_ahead
from heardsince.tables import turned
from heardsince.villages import check_village


def goes_with(village, dates, slates):
    """Whether along no slate the dates fall."""
    at = both_ways(checked_dates(village, dates))
    check_slates(village, slates)
    for person in village.people():
        row = [at[(person, friend)] for friend in slates[person]]
        if row != sorted(row):
            return False
    return True


def dates_for(village, spans, slates):
    """The dates within spans with which these slates go, each as early as can be, None if there are none."""
    within = checked_spans(village, spans)
    check_slates(village, slates)
    found = early_dates(village, within, slates)
    if not all([found[tie] <= within[tie][1] for tie in within]):
        return None
    return {tie: found[tie] for tie in within}


def latest_for(village, spans, slates):
    """The dates within spans with which these slates go, each as late as can be, None if there are none."""
    within = checked_spans(village, spans)
    check_slates(village, slates)
    # seen from the end, with dates below 0, slates turned about go with what is early
    about = {tie: (-within[tie][1], -within[tie][0]) for tie in within}
    found = early_dates(village, about, turned(village, slates))
    if not all([-found[tie] >= within[tie][0] for tie in within]):
        return None
    return {tie: -found[tie] for tie in within}


def tight_chain(village, spans, slates):
    """A chain whose first meeting's first date is above its last meeting's last one, None if there is none."""
    within = checked_spans(village, spans)
    check_slates(village, slates)
    found = early_dates(village, within, slates)
    for tie in within:
        if found[tie] > within[tie][1]:
            return chain_to(just_ahead(village, slates), lambda one, ahead: early_date(within, one, ahead), found, tie)
    return None


def checked_spans(village, spans):
    """The dict from ties to pairs (first, last); raises BadVillage, BadSpans."""
    check_village(village)
    within = by_ties(village.ties(), spans)
    if within is None or not all([is_span(span) for span in within.values()]):
        raise BadSpans(spans)
    return within


def checked_dates(village, dates):
    """The dict from ties to dates; raises BadVillage, BadDates."""
    check_village(village)
    found = by_ties(village.ties(), dates)
    if found is None or not all([is_number(date) for date in found.values()]):
        raise BadDates(dates)
    return found


def early_dates(village, within, slates):
    """The dict from ties to the earliest dates with which slates go, not ahead of first dates, whatever the last."""
    return earliest(just_ahead(village, slates), lambda tie, ahead: early_date(within, tie, ahead))


def early_date(within, tie, ahead):
    """The earliest date of a tie, by its span and the dates of those right ahead."""
    return max([within[tie][0]] + ahead)
