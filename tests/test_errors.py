"""Point 2.2 and the interface: the error classes."""

import inspect

from heardsince import errors, refusals
from tests import helper

LISTED = """HeardError, BadPeople(index), BadTies(index), BadNews(index), BadVillage(thing), NoPerson(person),
NotFriends(one, other), BadCalendar(calendar), BadSlates(slates), BadMany(many), BadTable(table), BadNumber(number),
BadSome(index), BadLedger(ledger), BadFame(fame), BadBegun(begun), BadLedgers(index), BadGifts(gifts), BadTalks(index),
BadPart(part), BadBox(box), BadPrices(prices), BadMeeting(meeting), SameMeeting(meeting), BadStart(index),
BadChooser(thing), BadPlace(place), BadCosts(index), BadPlan(plan), BadDays(days), BadMost(most), BadAway(away),
BadSpans(spans), BadDates(dates), BadTruth(heard), BadRounds(rounds), BadLot(index)"""
REFUSALS = """BadWeek(week), BadTimetable(timetable), BadDay(day), BadMissed(index), BadGaps(gaps), BadSayings(index),
NotOneListener(index), BadView(view), BadSeam(seam), BadMeetings(index), BadKept(index), BadBy(by), BadKnown(index),
BadMemory(memory), BadWishes(index), BadPorch(porch), CommonPerson(name), BadName(name), BadNumbers(numbers),
BadSeating(index), NotHeard(index), BadCaller(thing), BadTelling(thing), BadWish(thing), BadAnswer(thing),
NoGoBetween(one, other), BadDeed(thing), TakenName(name), HasMet(person), NotOutmost(person), HaveMet(one, other),
BadQuestion(thing), IsWatched(question), NotWatched(question), InUse(question), WouldChange(question), NoCount(number),
BadDesk(thing), BadText(line)"""
FILES = ((errors, LISTED), (refusals, REFUSALS))


def listed(text):
    """The names of the error classes with their parameters, as the document's interface lists them."""
    found = {}
    for part in text.replace("\n", " ").replace("), ", ");").replace("HeardError, ", "HeardError();").split(";"):
        name, parameters = part.strip(") ").split("(")
        found[name] = [one for one in parameters.split(", ") if one]
    return found


class ErrorClasses(helper.Told):

    def test_all_that_are_listed(self):
        self.assertEqual([len(listed(text)) for module, text in FILES], [37, 39])
        for module, text in FILES:
            own = [name for name, thing in vars(module).items()
                   if inspect.isclass(thing) and thing.__module__ == module.__name__]
            self.assertEqual(own, list(listed(text)))

    def test_each_directly_beneath_heard_error(self):
        self.assertEqual(errors.HeardError.__bases__, (ValueError,))
        for module, text in FILES:
            for name in listed(text):
                if name != "HeardError":
                    self.assertEqual(getattr(module, name).__bases__, (errors.HeardError,))

    def test_they_keep_the_very_objects(self):
        for module, text in FILES:
            for name, parameters in listed(text).items():
                self.kept(getattr(module, name), parameters)

    def kept(self, kind, parameters):
        for thing in helper.any_objects():
            things = [[thing], thing][-len(parameters):] if parameters else []
            for error in (kind(*things), kind(**dict(zip(parameters, things)))):
                self.assertEqual(list(vars(error)), parameters)
                for parameter, kept in zip(parameters, things):
                    self.assertIs(getattr(error, parameter), kept)

    def test_they_are_caught_as_heard_error_and_as_value_error(self):
        for kind in (errors.HeardError, ValueError, errors.NoPerson):
            with self.assertRaises(kind) as caught:
                helper.example_village().friends("e")
            self.assertEqual(caught.exception.person, "e")
