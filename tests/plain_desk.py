"""What desks must tell, by replaying the deeds plainly: states are dicts, answers go by what meetings tell."""

import itertools

from heardsince import refusals
from heardsince.errors import NoPerson, NotFriends
from heardsince.villages import Village
from tests import helper

COUNTS = {"heard": 2, "can": 2, "much": 1, "most": 1, "known": 1, "left": 0}


def first_state(village):
    return {"village": village, "held": [], "watched": []}


def replayed(village, deeds):
    """The state behind deeds that all can be done."""
    state = first_state(village)
    for deed in deeds:
        state = behind(state, deed)
    return state


def behind(state, deed):
    """The state behind a deed that can be done."""
    village, held, watched = state["village"], list(state["held"]), [list(one) for one in state["watched"]]
    people, ties, news = village.people(), village.ties(), village.news()
    if deed[0] == "come":
        village = Village(people + [deed[1]], ties + [(deed[2], deed[1])], news + [deed[3]])
    elif deed[0] == "leave":
        news.pop(people.index(deed[1]))
        people.remove(deed[1])
        village = Village(people, [tie for tie in ties if deed[1] not in tie], news)
    elif deed[0] == "meet":
        held += [tie for tie in ties if set(tie) == set(deed[1:])]
    elif deed[0] == "watch":
        watched.append([tuple(deed[1]), False])
    elif deed[0] == "hold":
        for one in watched:
            one[1] = one[1] or one[0] == tuple(deed[1])
        if tuple(deed[1]) not in [one[0] for one in watched]:
            watched.append([tuple(deed[1]), True])
    else:
        watched = [one for one in watched if one[0] != tuple(deed[1])]
    return {"village": village, "held": held, "watched": watched}


def is_question(village, thing):
    if not isinstance(thing, (list, tuple)) or not thing or not isinstance(thing[0], str):
        return False
    return len(thing) - 1 == COUNTS.get(thing[0]) and all(isinstance(one, str) and one in village.people()
                                                          for one in thing[1:])


def can_hear(village, held, one, other):
    """Whether the meetings held on the way from other to one are its beginning, and rise."""
    row = helper.way(village, other, one)
    times = [[time for time, meeting in enumerate(held) if set(meeting) == {x, y}] for x, y in zip(row, row[1:])]
    held_times = [time[0] for time in times if time]
    return all(times[:len(held_times)]) and held_times == sorted(held_times)


def can_by_orders(village, held, one, other):
    """The same, by going through all orders of the meetings to come."""
    left = [tie for tie in village.ties() if tie not in held]
    return any(other in helper.simulated(village, held + list(row))[one] for row in itertools.permutations(left))


def answer(village, held, question):
    kind = question[0]
    own = dict(zip(village.people(), village.news()))
    heard = helper.simulated(village, held)
    if kind == "heard":
        return question[2] in heard[question[1]]
    if kind == "can":
        return can_hear(village, held, question[1], question[2])
    if kind == "much":
        return sum(own[one] for one in heard[question[1]])
    if kind == "most":
        return sum(own[one] for one in own if can_hear(village, held, question[1], one))
    if kind == "known":
        return sum(question[1] in lot for lot in heard.values())
    return len(village.ties()) - len(held)


def changes(ahead, after):
    rows = [(question, answer(ahead["village"], ahead["held"], question),
             answer(after["village"], after["held"], question)) for question, _ in ahead["watched"]]
    return [row for row in rows if row[1] != row[2]]


def is_deed(thing):
    if not isinstance(thing, (list, tuple)) or not thing or not isinstance(thing[0], str):
        return False
    forms = {"come": "nni", "leave": "n", "meet": "nn", "watch": "q", "hold": "q", "free": "q"}
    form = forms.get(thing[0])
    if form is None or len(form) != len(thing) - 1:
        return False
    return all(sign == "q" or (sign == "i" and type(part) is int and part > 0)
               or (sign == "n" and isinstance(part, str) and 1 <= len(part) <= 8 and part.isascii()
                   and part.isalnum() and part == part.lower() and part[0].isalpha())
               for sign, part in zip(form, thing[1:]))


def refusal(state, deed, would=False):
    """The error that is due of a deed and what it keeps, None if the deed is done."""
    village, held, watched = state["village"], state["held"], state["watched"]
    people = village.people()
    if not is_deed(deed):
        return refusals.BadDeed, {"thing": deed}
    kind, first = deed[0], deed[1]
    if kind == "come":
        if first in people:
            return refusals.TakenName, {"name": first}
        if deed[2] not in people:
            return NoPerson, {"person": deed[2]}
    if kind == "leave":
        if first not in people:
            return NoPerson, {"person": first}
        if any(first in meeting for meeting in held):
            return refusals.HasMet, {"person": first}
        if len(helper.friends(village)[first]) != 1:
            return refusals.NotOutmost, {"person": first}
    if kind == "meet":
        for person in deed[1:]:
            if person not in people:
                return NoPerson, {"person": person}
        if deed[2] not in helper.friends(village)[first]:
            return NotFriends, {"one": first, "other": deed[2]}
        if any(set(meeting) == {first, deed[2]} for meeting in held):
            return refusals.HaveMet, {"one": first, "other": deed[2]}
    if kind in ("watch", "hold", "free"):
        if not is_question(village, first):
            return refusals.BadQuestion, {"thing": first}
        now = dict(map(tuple, watched)).get(tuple(first))
        if (kind == "watch" and now is not None) or (kind == "hold" and now is True):
            return refusals.IsWatched, {"question": first}
        if kind == "free" and now is None:
            return refusals.NotWatched, {"question": first}
    return refusal_by_questions(state, deed, would)


def refusal_by_questions(state, deed, would):
    after = behind(state, deed)
    for question, _ in state["watched"]:
        if not is_question(after["village"], question):
            return refusals.InUse, {"question": question}
    for question, _, _ in changes(state, after):
        if [question, True] in state["watched"] and not would:
            return refusals.WouldChange, {"question": question}
    return None
