"""The errors of timetables, sayings, views, callers, desks and what else stands farther on in the document.

They keep what they are made with, the very objects, under the names of their parameters.
"""

from heardsince.errors import HeardError


class BadWeek(HeardError):
    """This is no number of days that a week can have."""

    def __init__(self, week):
        self.week = week


class BadTimetable(HeardError):
    """This is no timetable of the village."""

    def __init__(self, timetable):
        self.timetable = timetable


class BadDay(HeardError):
    """This is no day."""

    def __init__(self, day):
        self.day = day


class BadMissed(HeardError):
    """What stands in missed at this index is no meeting of a week, or stood before."""

    def __init__(self, index):
        self.index = index


class BadGaps(HeardError):
    """These are no gaps of the village."""

    def __init__(self, gaps):
        self.gaps = gaps


class BadSayings(HeardError):
    """What stands in sayings at this index is none."""

    def __init__(self, index):
        self.index = index


class NotOneListener(HeardError):
    """The saying at this index is of another listener."""

    def __init__(self, index):
        self.index = index


class BadView(HeardError):
    """This is no view of the person."""

    def __init__(self, view):
        self.view = view


class BadSeam(HeardError):
    """This is no seam of the slates."""

    def __init__(self, seam):
        self.seam = seam


class BadMeetings(HeardError):
    """What stands in the list at this index is no meeting, or stood before."""

    def __init__(self, index):
        self.index = index


class BadKept(HeardError):
    """What stands in kept at this index is no meeting, or stood before."""

    def __init__(self, index):
        self.index = index


class BadBy(HeardError):
    """By this no chances are told."""

    def __init__(self, by):
        self.by = by


class BadKnown(HeardError):
    """What stands in known at this index is none of the people, or stood before."""

    def __init__(self, index):
        self.index = index


class BadMemory(HeardError):
    """This is no dict from just all people to numbers."""

    def __init__(self, memory):
        self.memory = memory


class BadWishes(HeardError):
    """What stands in wishes at this index is none."""

    def __init__(self, index):
        self.index = index


class BadPorch(HeardError):
    """This is no porch of the village."""

    def __init__(self, porch):
        self.porch = porch


class CommonPerson(HeardError):
    """Somebody of this name is in both villages."""

    def __init__(self, name):
        self.name = name


class BadName(HeardError):
    """This is no name, or somebody has it."""

    def __init__(self, name):
        self.name = name


class BadNumbers(HeardError):
    """This is no dict from just all people of one side to numbers."""

    def __init__(self, numbers):
        self.numbers = numbers


class BadSeating(HeardError):
    """At this index a seating has nobody of the people, or one who sat before, or too few."""

    def __init__(self, index):
        self.index = index


class NotHeard(HeardError):
    """The saying at this index is not that somebody has heard."""

    def __init__(self, index):
        self.index = index


class BadCaller(HeardError):
    """This is no function that could be called."""

    def __init__(self, thing):
        self.thing = thing


class BadTelling(HeardError):
    """This is no list of those whose news could be told on."""

    def __init__(self, thing):
        self.thing = thing


class BadWish(HeardError):
    """This is no wish."""

    def __init__(self, thing):
        self.thing = thing


class BadAnswer(HeardError):
    """This is no answer."""

    def __init__(self, thing):
        self.thing = thing


class NoGoBetween(HeardError):
    """These two are the same, or friends, so that nobody stands between them."""

    def __init__(self, one, other):
        self.one = one
        self.other = other


class BadDeed(HeardError):
    """This is no deed."""

    def __init__(self, thing):
        self.thing = thing


class TakenName(HeardError):
    """Somebody of the village has this name."""

    def __init__(self, name):
        self.name = name


class HasMet(HeardError):
    """This person has held a meeting."""

    def __init__(self, person):
        self.person = person


class NotOutmost(HeardError):
    """This person has not one friend alone."""

    def __init__(self, person):
        self.person = person


class HaveMet(HeardError):
    """These two have met."""

    def __init__(self, one, other):
        self.one = one
        self.other = other


class BadQuestion(HeardError):
    """This is no question now."""

    def __init__(self, thing):
        self.thing = thing


class IsWatched(HeardError):
    """This question is watched, or held, as was asked for."""

    def __init__(self, question):
        self.question = question


class NotWatched(HeardError):
    """This question is not watched."""

    def __init__(self, question):
        self.question = question


class InUse(HeardError):
    """This watched question would be none any more."""

    def __init__(self, question):
        self.question = question


class WouldChange(HeardError):
    """This held question would be answered otherwise."""

    def __init__(self, question):
        self.question = question


class NoCount(HeardError):
    """This is no number of deeds that are done."""

    def __init__(self, number):
        self.number = number


class BadDesk(HeardError):
    """This is no desk."""

    def __init__(self, thing):
        self.thing = thing


class BadText(HeardError):
    """This line of a text cannot stand there."""

    def __init__(self, line):
        self.line = line
