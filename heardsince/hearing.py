"""Who has surely, perhaps, or never heard of whom, if meetings are held within spans of dates."""

from heardsince.errors import BadTruth
from heardsince.meetingdays import both_ways, tie_names
from heardsince.spans import checked_spans
from heardsince.villages import check_person, check_two, inward_from


def hearing(village, spans, one, other):
    """The word that tells whether one surely has heard of other, or perhaps, or never."""
    within = checked_spans(village, spans)
    check_two(village, one, other)
    return words_of(village, within, one)[other]


def barring(village, spans, one, other):
    """The first pair (ahead, further on) of meetings on the way from other to one, ahead being too late; or None."""
    within = checked_spans(village, spans)
    check_two(village, one, other)
    names = tie_names(village.ties())
    way = village.way(other, one)
    doors = [names[door] for door in zip(way, way[1:])]
    for place, ahead in enumerate(doors):
        for further in doors[place + 1:]:
            if within[ahead][0] > within[further][1]:
                return (ahead, further)
    return None


def shown(village, spans, one, other, heard):
    """A pair (dates, slates) by which one has heard of other, or has not, as heard tells; None if there is none."""
    within = checked_spans(village, spans)
    check_two(village, one, other)
    if heard is not True and heard is not False:
        raise BadTruth(heard)
    word = words_of(village, within, one)[other]
    if heard:
        return None if word == "never" else most_by(village, within, one)
    return None if word == "surely" else least_by(village, within, one)


def sure_ones(village, spans, person):
    """The list of those of whom a person has surely heard."""
    return ones_of(village, spans, person, "surely")


def open_ones(village, spans, person):
    """The list of those of whom a person has perhaps heard."""
    return ones_of(village, spans, person, "perhaps")


def most_heard(village, spans, person):
    """A pair (dates, slates) by which a person has heard of all of whom that can be."""
    within = checked_spans(village, spans)
    check_person(village, person)
    return most_by(village, within, person)


def least_heard(village, spans, person):
    """A pair (dates, slates) by which a person has heard of those alone of whom that is sure."""
    within = checked_spans(village, spans)
    check_person(village, person)
    return least_by(village, within, person)


def ones_of(village, spans, person, word):
    """The list of those of whom a person has heard as a word tells; raises BadVillage, BadSpans, NoPerson."""
    within = checked_spans(village, spans)
    check_person(village, person)
    words = words_of(village, within, person)
    return [other for other in village.people() if words[other] == word]


def words_of(village, within, person):
    """The dict from all people, near ones first, to the word that tells whether a person has heard of them."""
    at = both_ways(within)
    inward = inward_from(village, person)
    words = {}
    # the least last date of the doors on the way
    least = {}
    for other in inward:
        near = inward[other]
        if near is None:
            words[other] = "surely"
        elif near == person:
            words[other] = "surely"
            least[other] = at[(other, near)][1]
        else:
            words[other] = word_behind(words[near], at[(other, near)], at[(near, inward[near])], least[near])
            least[other] = min(least[near], at[(other, near)][1])
    return words


def word_behind(word, behind, ahead, least):
    """The word of somebody behind a door; word is that of who is ahead of it, behind and ahead are spans of doors.

    ahead is that of the next door towards the person, least the least last date of all doors towards the person.
    """
    if word == "never" or behind[0] > least:
        return "never"
    if word == "surely" and ahead[0] > behind[1]:
        return "surely"
    return "perhaps"


def most_by(village, within, person):
    """The dates and slates of most_heard: as late as what can come from behind wants, and no later."""
    at = both_ways(within)
    words = words_of(village, within, person)
    inward = inward_from(village, person)
    dates = {}
    for other in reversed(list(inward)[1:]):
        come = [dates[(friend, other)] for friend in village.friends(other)
                if friend != inward[other] and words[friend] != "never"]
        dates[(other, inward[other])] = max([at[(other, inward[other])][0]] + come)
    return dates_and_slates(village, inward, dates, 1)


def least_by(village, within, person):
    """The dates and slates of least_heard: late ones of those behind keep out all of whom it is not sure."""
    at = both_ways(within)
    words = words_of(village, within, person)
    inward = inward_from(village, person)
    dates = {}
    for other in list(inward)[1:]:
        first, last = at[(other, inward[other])]
        dates[(other, inward[other])] = first if words[other] == "surely" else last
    return dates_and_slates(village, inward, dates, -1)


def dates_and_slates(village, inward, dates, turn):
    """The pair (dates, slates) of dates from pairs (person, friend further in).

    Of meetings on one date a person's with the friend further in goes last by the turn 1, first by -1.
    """
    at = both_ways(dates)
    slates = {person: slate_by_turn(village.friends(person), at, person, inward[person], turn)
              for person in village.people()}
    return {tie: at[tie] for tie in village.ties()}, slates


def slate_by_turn(friends, at, person, nearer, turn):
    """A person's friends by dates, the friend further in last or first among those on one date."""
    return sorted(friends, key=lambda friend: (at[(person, friend)], turn if friend == nearer else 0))
