"""The errors of the package.

They keep what they are made with, the very objects, under the names of their parameters.
"""


class HeardError(ValueError):
    """What all errors of the package are."""


class BadPeople(HeardError):
    """What stands in people at this index is no name, or stood before."""

    def __init__(self, index):
        self.index = index


class BadTies(HeardError):
    """At this index ties have what is no tie, or too little or too much is tied."""

    def __init__(self, index):
        self.index = index


class BadNews(HeardError):
    """At this index news have no integer from 1 on, or one too many or too few."""

    def __init__(self, index):
        self.index = index


class BadVillage(HeardError):
    """This is no Village."""

    def __init__(self, thing):
        self.thing = thing


class NoPerson(HeardError):
    """This is none of the people."""

    def __init__(self, person):
        self.person = person


class NotFriends(HeardError):
    """These two people are no friends."""

    def __init__(self, one, other):
        self.one = one
        self.other = other


class BadCalendar(HeardError):
    """This is no calendar of the village."""

    def __init__(self, calendar):
        self.calendar = calendar


class BadSlates(HeardError):
    """These are no slates of the village."""

    def __init__(self, slates):
        self.slates = slates


class BadMany(HeardError):
    """This is no number of meetings, or of what else is to be counted."""

    def __init__(self, many):
        self.many = many


class BadTable(HeardError):
    """This is no table of the people."""

    def __init__(self, table):
        self.table = table


class BadNumber(HeardError):
    """This is no number, or too great a one."""

    def __init__(self, number):
        self.number = number


class BadSome(HeardError):
    """What stands in some at this index is none of the people, or stood before."""

    def __init__(self, index):
        self.index = index


class BadLedger(HeardError):
    """This is no ledger of the village."""

    def __init__(self, ledger):
        self.ledger = ledger


class BadFame(HeardError):
    """This is no dict from just all people to numbers."""

    def __init__(self, fame):
        self.fame = fame


class BadBegun(HeardError):
    """These are no begun slates of the village."""

    def __init__(self, begun):
        self.begun = begun


class BadLedgers(HeardError):
    """What stands in ledgers at this index is no ledger."""

    def __init__(self, index):
        self.index = index


class BadGifts(HeardError):
    """This is no dict from just all pairs of friends to numbers."""

    def __init__(self, gifts):
        self.gifts = gifts


class BadTalks(HeardError):
    """At this index talks have no number, or one too many or too few."""

    def __init__(self, index):
        self.index = index


class BadPart(HeardError):
    """This is no part of a ledger of the village."""

    def __init__(self, part):
        self.part = part


class BadBox(HeardError):
    """This is no box of the village."""

    def __init__(self, box):
        self.box = box


class BadPrices(HeardError):
    """This is no dict from just all people to integers from 1 on."""

    def __init__(self, prices):
        self.prices = prices


class BadMeeting(HeardError):
    """This is no meeting of the village."""

    def __init__(self, meeting):
        self.meeting = meeting


class SameMeeting(HeardError):
    """This meeting was named twice, where two are asked for."""

    def __init__(self, meeting):
        self.meeting = meeting


class BadStart(HeardError):
    """What stands in start at this index cannot be held there."""

    def __init__(self, index):
        self.index = index


class BadChooser(HeardError):
    """This is no function that could choose."""

    def __init__(self, thing):
        self.thing = thing


class BadPlace(HeardError):
    """This is no place at which an exchange can be."""

    def __init__(self, place):
        self.place = place


class BadCosts(HeardError):
    """At this index the list of costs or prices has what is none, or one too many or few."""

    def __init__(self, index):
        self.index = index


class BadPlan(HeardError):
    """This is no plan of the village."""

    def __init__(self, plan):
        self.plan = plan


class BadDays(HeardError):
    """This is no number of days."""

    def __init__(self, days):
        self.days = days


class BadMost(HeardError):
    """This is neither None nor an integer from 1 on."""

    def __init__(self, most):
        self.most = most


class BadAway(HeardError):
    """This is no dict from some people to the days on which they are away."""

    def __init__(self, away):
        self.away = away


class BadSpans(HeardError):
    """These are no spans of all meetings."""

    def __init__(self, spans):
        self.spans = spans


class BadDates(HeardError):
    """These are no dates of all meetings."""

    def __init__(self, dates):
        self.dates = dates


class BadTruth(HeardError):
    """This is neither True nor False."""

    def __init__(self, heard):
        self.heard = heard


class BadRounds(HeardError):
    """This is no number of rounds."""

    def __init__(self, rounds):
        self.rounds = rounds


class BadLot(HeardError):
    """What stands in the list at this index is none of the people, or stood before."""

    def __init__(self, index):
        self.index = index
