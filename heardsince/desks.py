"""Desks: a village that lives, deeds that are done whole or not at all, and questions that are watched."""

from heardsince.calendars import heard_from, rows_of, tie_places
from heardsince.checks import is_integer, is_list, is_name, is_number, is_one_of
from heardsince.refusals import (BadDeed, BadQuestion, HasMet, HaveMet, InUse, IsWatched, NoCount, NotOutmost,
                                 NotWatched, TakenName, WouldChange)
from heardsince.villages import Village, check_friends, check_person, check_village, doors_inward, inward_from, own_news

# of how many people each question asks
QUESTIONS = {"heard": 2, "can": 2, "much": 1, "most": 1, "known": 1, "left": 0}


class Desk:
    """A village as it is, the meetings held, and the questions watched; deeds can be taken back and done again.

    A STATE is a triple (village, held, watched), watched being a list of pairs (question, whether it is held). States
    and lists of deeds are never changed: new ones take their places. So desks can share them, and trials be ended.
    """

    def __init__(self, village):
        check_village(village)
        self._state = (village, [], [])
        # the deeds done, each with the state ahead of it
        self._done = []
        # the deeds taken back, each with the state behind it
        self._undone = []

    def __eq__(self, other):
        return isinstance(other, Desk) and self._state == other._state

    def village(self):
        """The village as it is."""
        return self._state[0]

    def held(self):
        """The list of the meetings held, in their order."""
        return list(self._state[1])

    def watched(self):
        """The list of the triples (question, its answer, whether it is held)."""
        return [(question, answer_to(self._state, question), is_held) for question, is_held in self._state[2]]

    def do(self, deed):
        """Does a deed, and tells the triples (question, ahead, behind) of what is answered otherwise behind it."""
        behind = state_behind(self._state, deed)
        changes = changed_answers(self._state, behind)
        for question, old, new in changes:
            if is_held_in(self._state, question):
                raise WouldChange(question)
        self._done = self._done + [(as_told(deed), self._state)]
        self._undone = []
        self._state = behind
        return changes

    def is_question(self, thing):
        """Whether a thing is a question now."""
        return is_question_of(self._state[0], thing)

    def answer(self, question):
        """The answer to a question."""
        return answer_to(self._state, checked_question(self._state[0], question))

    def way_on(self, one, other):
        """A list of all meetings to come, in an order by which one will have heard of other, None if there is none."""
        if self.barred_at(one, other) is not None:
            return None
        return self.best_on(one)

    def barred_at(self, one, other):
        """None, or the first person on the way from other to one at whom it does not rise any more."""
        check_person(self._state[0], one)
        check_person(self._state[0], other)
        return first_barred(self._state[1], self._state[0].way(other, one))

    def best_on(self, person):
        """A list of all meetings to come, in an order by which a person will have heard of all they can."""
        check_person(self._state[0], person)
        return best_order(self._state[0], self._state[1], person)

    def would(self, deed):
        """What do would return, held questions or not; changes nothing."""
        return changed_answers(self._state, state_behind(self._state, deed))

    def free_meetings(self):
        """The list of the meetings to come that can be held now without changing the answer to any held question."""
        village, held, watched = self._state
        return [tie for tie in left_meetings(village, held)
                if keeps_held(self._state, (village, held + [tie], watched))]

    def count(self):
        """How many deeds are done and not taken back."""
        return len(self._done)

    def undo(self):
        """Takes the last deed back, and tells it, or None."""
        if len(self._done) == 0:
            return None
        deed, ahead = self._done[-1]
        self._undone = self._undone + [(deed, self._state)]
        self._done = self._done[:-1]
        self._state = ahead
        return deed

    def again(self):
        """Does the deed taken back last again, and tells it, or None."""
        if len(self._undone) == 0:
            return None
        deed, behind = self._undone[-1]
        self._done = self._done + [(deed, self._state)]
        self._undone = self._undone[:-1]
        self._state = behind
        return deed

    def deeds(self):
        """The list of the deeds done and not taken back."""
        return [deed for deed, ahead in self._done]

    def at(self, number):
        """Another desk, as this one was behind so many deeds."""
        if not is_number(number) or number > len(self._done):
            raise NoCount(number)
        desk = self.copy()
        desk._undone = []
        if number < len(self._done):
            desk._state = self._done[number][1]
            desk._done = self._done[:number]
        return desk

    def copy(self):
        """Another desk, the same, that goes on by itself."""
        desk = Desk(self._state[0])
        desk._state = self._state
        desk._done = self._done
        desk._undone = self._undone
        return desk

    def trial(self, work):
        """What a function returns that is called with this desk; behind it all is as ahead."""
        state, done, undone = self._state, self._done, self._undone
        try:
            return work(self)
        finally:
            self._state, self._done, self._undone = state, done, undone


def desk_in(state):
    """A desk in a state, no deed done."""
    desk = Desk(state[0])
    desk._state = state
    return desk


def begins_with(words, thing):
    """Whether a thing is a list that begins with one of some words."""
    return is_list(thing) and len(thing) > 0 and is_one_of(words, thing[0])


def is_question_of(village, thing):
    """Whether a thing is a question, its people being those of a village."""
    if not begins_with(list(QUESTIONS), thing):
        return False
    people = village.people()
    return len(thing) == 1 + QUESTIONS[thing[0]] and all([is_one_of(people, person) for person in thing[1:]])


def checked_question(village, thing):
    """A question as it is told; raises BadQuestion."""
    if not is_question_of(village, thing):
        raise BadQuestion(thing)
    return tuple(thing)


def answer_to(state, question):
    """The answer to a question in a state."""
    village = state[0]
    held = state[1]
    kind = question[0]
    if kind == "left":
        return len(left_meetings(village, held))
    person = question[1]
    if kind == "known":
        rows = rows_of(village.people(), held)
        return len([one for one in village.people() if person in heard_from(rows, one)])
    meetings = held
    if kind in ("can", "most"):
        meetings = held + best_order(village, held, person)
    heard = heard_from(rows_of(village.people(), meetings), person)
    if kind in ("heard", "can"):
        return question[2] in heard
    news = own_news(village)
    return sum([news[one] for one in heard])


def left_meetings(village, held):
    """The list of the meetings to come, in the order of the ties."""
    return [tie for tie in village.ties() if tie not in held]


def best_order(village, held, person):
    """The list of the meetings to come, those farthest from a person first."""
    doors = doors_inward(inward_from(village, person))
    return sorted(left_meetings(village, held), key=lambda tie: -doors[tie[0]] - doors[tie[1]])


def first_barred(held, way):
    """The first person on a way whose next meeting on it was held while that ahead was not, or ahead of it; or None."""
    times = tie_places(held)
    for ahead, person, behind in zip(way, way[1:], way[2:]):
        # what is to come is behind all that were held
        if times.get((person, behind), len(held)) < times.get((ahead, person), len(held)):
            return person
    return None


def changed_answers(ahead, behind):
    """The list of the triples (question, old, new) of what is watched ahead and is answered otherwise behind."""
    answers = [(question, answer_to(ahead, question), answer_to(behind, question)) for question, is_held in ahead[2]]
    return [(question, old, new) for question, old, new in answers if old != new]


def is_watched_in(state, question):
    """Whether a question is watched in a state, held or not."""
    return question in [one for one, is_held in state[2]]


def is_held_in(state, question):
    """Whether a question is held in a state."""
    return (question, True) in state[2]


def keeps_held(ahead, behind):
    """Whether all held questions are answered behind as ahead."""
    return not any([is_held_in(ahead, question) for question, old, new in changed_answers(ahead, behind)])


def come(state, deed):
    """The state behind somebody new came."""
    village, held, watched = state
    name, friend, news = deed[1:]
    if name in village.people():
        raise TakenName(name)
    check_person(village, friend)
    grown = Village(village.people() + [name], village.ties() + [(friend, name)], village.news() + [news])
    return (grown, held, watched)


def leave(state, deed):
    """The state behind somebody left who has held no meeting and has one friend alone."""
    village, held, watched = state
    name = deed[1]
    check_person(village, name)
    if any([name in meeting for meeting in held]):
        raise HasMet(name)
    if len(village.friends(name)) != 1:
        raise NotOutmost(name)
    for question, is_held in watched:
        # the word of a question may be somebody's name, too
        if name in question[1:]:
            raise InUse(question)
    news = own_news(village)
    others = [person for person in village.people() if person != name]
    ties = [tie for tie in village.ties() if name not in tie]
    return (Village(others, ties, [news[person] for person in others]), held, watched)


def meet(state, deed):
    """The state behind two friends met."""
    village, held, watched = state
    one, other = deed[1:]
    check_friends(village, one, other)
    tie = (one, other) if (one, other) in village.ties() else (other, one)
    if tie in held:
        raise HaveMet(one, other)
    return (village, held + [tie], watched)


def watch(state, deed):
    """The state behind which a question is watched."""
    village, held, watched = state
    question = checked_question(village, deed[1])
    if is_watched_in(state, question):
        raise IsWatched(deed[1])
    return (village, held, watched + [(question, False)])


def hold(state, deed):
    """The state behind which a question is held."""
    village, held, watched = state
    question = checked_question(village, deed[1])
    if is_held_in(state, question):
        raise IsWatched(deed[1])
    if is_watched_in(state, question):
        return (village, held, [(one, is_held or one == question) for one, is_held in watched])
    return (village, held, watched + [(question, True)])


def free(state, deed):
    """The state behind which a question is neither watched nor held."""
    village, held, watched = state
    question = checked_question(village, deed[1])
    if not is_watched_in(state, question):
        raise NotWatched(deed[1])
    return (village, held, [(one, is_held) for one, is_held in watched if one != question])


ACTS = {"come": come, "leave": leave, "meet": meet, "watch": watch, "hold": hold, "free": free}


def is_deed(thing):
    """Whether a thing is a deed."""
    if not begins_with(list(ACTS), thing):
        return False
    word = thing[0]
    parts = thing[1:]
    if word == "come":
        return len(parts) == 3 and is_name(parts[0]) and is_name(parts[1]) and is_integer(parts[2]) and parts[2] >= 1
    if word == "meet":
        return len(parts) == 2 and is_name(parts[0]) and is_name(parts[1])
    if word == "leave":
        return len(parts) == 1 and is_name(parts[0])
    return len(parts) == 1


def state_behind(state, deed):
    """The state behind a deed; raises what do raises, but WouldChange."""
    if not is_deed(deed):
        raise BadDeed(deed)
    act = ACTS[deed[0]]
    return act(state, deed)


def as_told(deed):
    """A deed that was done, with its question, as tuples."""
    return tuple([tuple(part) if is_list(part) else part for part in deed])
