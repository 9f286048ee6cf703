"""Whose news one tells a friend at their meeting, and in how many slates just these, or so many, are told."""

from math import factorial

from heardsince.calendars import check_slates, told_from
from heardsince.tables import check_some, hang_together
from heardsince.villages import check_friends, check_person, check_village, inward_from, own_news


def told_at(village, slates, one, other):
    """The list of the people whose news one tells other at their meeting."""
    check_slates(village, slates)
    check_friends(village, one, other)
    told = told_from(slates, one, other)
    return [person for person in village.people() if person in told]


def lots_at(village, one, other):
    """Of how many unlike lots of people one can tell other."""
    check_village(village)
    check_friends(village, one, other)
    behind = friends_behind(village, other)
    lots = {}
    for person in behind:
        lots[person] = 1
        for friend in behind[person]:
            lots[person] *= 1 + lots[friend]
    return lots[one]


def slates_telling(village, one, other, some):
    """How many slates there are by which one tells other of just some."""
    check_village(village)
    check_friends(village, one, other)
    check_some(village, some)
    beyond = village.behind(one, other)
    if one not in some or any([person in beyond for person in some]) or not hang_together(village, some):
        return 0
    behind = friends_behind(village, other)
    many = 1
    for person in village.people():
        if person in some:
            inside = len([friend for friend in behind[person] if friend in some])
            many *= factorial(inside) * factorial(len(behind[person]) - inside)
        else:
            many *= factorial(len(village.friends(person)))
    return many


def gift_counts(village, one, other):
    """The dict, ascending, from the gifts that one can give other to how many slates there are with each."""
    check_village(village)
    check_friends(village, one, other)
    beyond = 1
    for person in village.behind(one, other):
        beyond *= factorial(len(village.friends(person)))
    ways = ways_by_gift(village, other)[one]
    return {given: ways[given] * beyond for given in sorted(ways)}


def number_counts(village, person):
    """The dict, ascending, from the numbers that a person can have in the ledger to how many slates have them."""
    check_village(village)
    check_person(village, person)
    friends = village.friends(person)
    by_gift = ways_by_gift(village, person)
    ways = {own_news(village)[person]: factorial(len(friends))}
    for friend in friends:
        grown = {}
        for number, many in ways.items():
            for given, more in by_gift[friend].items():
                grown[number + given] = grown.get(number + given, 0) + many * more
        ways = grown
    return {number: ways[number] for number in sorted(ways)}


def friends_behind(village, middle):
    """The dict from all people, far ones from middle first, to the lists of their friends further from middle."""
    inward = inward_from(village, middle)
    return {person: [friend for friend in village.friends(person) if friend != inward[person]]
            for person in reversed(list(inward))}


def ways_by_gift(village, middle):
    """The dict from all others to the dicts from what they can tell their friend towards middle to in how many ways.

    The ways are those of the slates of this person and of all behind.
    """
    news = own_news(village)
    behind = friends_behind(village, middle)
    ways = {}
    for person in behind:
        if person != middle:
            ways[person] = ways_of_one(news[person], [ways[friend] for friend in behind[person]])
    return ways


def ways_of_one(own, rows):
    """The dict from what one can tell to in how many ways; rows are those dicts of the friends behind."""
    # by how many friends are met ahead, and what is known then
    found = {(0, own): 1}
    for row in rows:
        every = sum(row.values())
        grown = {}
        for (ahead, known), many in found.items():
            grown[(ahead, known)] = grown.get((ahead, known), 0) + many * every
            for given, more in row.items():
                state = (ahead + 1, known + given)
                grown[state] = grown.get(state, 0) + many * more
        found = grown
    ways = {}
    for (ahead, known), many in found.items():
        ways[known] = ways.get(known, 0) + many * factorial(ahead) * factorial(len(rows) - ahead)
    return ways
