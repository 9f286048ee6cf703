"""What forgetting makes unsure: chances to hear with a told memory, and slates that no numbers tell apart."""

from heardsince.calendarcounts import fraction
from heardsince.forgetful import check_memory
from heardsince.villages import check_two


def chance_with(village, memory, one, other):
    """The fraction of all slates by which, with this memory, one has heard of other."""
    check_memory(village, memory)
    check_two(village, one, other)
    top = 1
    bottom = 1
    for person in village.way(other, one)[1:-1]:
        many = len(village.friends(person))
        # the friend further on can stand so many places behind the one ahead
        top *= sum([many - places for places in range(1, min(memory[person], many - 1) + 1)])
        bottom *= many * (many - 1)
    return fraction(top, bottom)


def same_ledgers(village, memory):
    """A list of two unlike slates by which, with this memory, all have heard as much; None if there are none."""
    check_memory(village, memory)
    for person in village.people():
        if len(village.friends(person)) > memory[person] + 1:
            one = slates_meeting_first(village, person)
            other = slates_meeting_first(village, person)
            # both of the last two are told of as many as this one remembers
            other[person] = other[person][:-2] + [other[person][-1], other[person][-2]]
            return [one, other]
    return None


def slates_meeting_first(village, person):
    """Slates by which a person is the first whom each of their friends meets."""
    return {one: sorted(village.friends(one), key=lambda friend: friend != person) for one in village.people()}
