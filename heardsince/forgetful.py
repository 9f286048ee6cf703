"""The forgetful, who tell what they heard at their next so many meetings and no more; how much memory is enough."""

from heardsince.calendars import check_slates
from heardsince.checks import is_list, is_numbers_of, is_pair_of
from heardsince.refusals import BadMemory, BadWishes
from heardsince.villages import check_person, check_two, check_village, inward_from, own_news


def heard_with(village, slates, memory, one, other):
    """Whether, with this memory, one has heard of other."""
    check_slates_and_memory(village, slates, memory)
    check_two(village, one, other)
    return other in heard_by_memory(slates, memory, one, slates[one])


def table_with(village, slates, memory):
    """The dict from people to the lists of those of whom they have heard with this memory."""
    check_slates_and_memory(village, slates, memory)
    people = village.people()
    found = {}
    for person in people:
        heard = heard_by_memory(slates, memory, person, slates[person])
        found[person] = [other for other in people if other in heard]
    return found


def ledger_with(village, slates, memory):
    """The dict from people to how many news they have heard with this memory."""
    check_slates_and_memory(village, slates, memory)
    news = own_news(village)
    return {person: sum([news[other] for other in heard_by_memory(slates, memory, person, slates[person])])
            for person in village.people()}


def still_knows(village, slates, memory, person):
    """The list of those whose news a person would tell at one meeting more, behind all."""
    check_slates_and_memory(village, slates, memory)
    check_person(village, person)
    slate = slates[person]
    kept = heard_by_memory(slates, memory, person, slate[max(0, len(slate) - memory[person]):])
    return [other for other in village.people() if other in kept]


def least_memory(village, slates, one, other):
    """The least number such that, were it everybody's memory, one would have heard of other; None if there is none."""
    check_slates(village, slates)
    check_two(village, one, other)
    return least_memories(village, slates, other).get(one, None)


def pairs_by_memory(village, slates):
    """The list of how many pairs of unlike people have the least memory 0, 1, and so on."""
    check_slates(village, slates)
    numbers = []
    for other in village.people():
        least = least_memories(village, slates, other)
        numbers = numbers + [least[one] for one in least if one != other]
    return [numbers.count(number) for number in range(max(numbers, default=-1) + 1)]


def memory_for(village, slates, wishes):
    """The dict from people to the least memories by which all wishes are heard, None if one's way does not rise."""
    check_slates(village, slates)
    check_wishes(village, wishes)
    least = {person: 0 for person in village.people()}
    for one, other in wishes:
        way = village.way(other, one)
        for ahead, person, behind in zip(way, way[1:], way[2:]):
            places = slates[person].index(behind) - slates[person].index(ahead)
            if places < 0:
                return None
            least[person] = max(least[person], places)
    return least


def check_memory(village, memory):
    """Raises BadVillage, BadMemory."""
    check_village(village)
    if not is_numbers_of(village.people(), memory):
        raise BadMemory(memory)


def check_slates_and_memory(village, slates, memory):
    """Raises BadVillage, BadSlates, BadMemory."""
    check_slates(village, slates)
    check_memory(village, memory)


def check_wishes(village, wishes):
    """Raises BadWishes."""
    if not is_list(wishes):
        raise BadWishes(0)
    known = {person: True for person in village.people()}
    for index, wish in enumerate(wishes):
        if not is_pair_of(known, wish):
            raise BadWishes(index)


def heard_by_memory(slates, memory, person, friends):
    """The dict of True from a person and those of whom the person has heard from some friends, with this memory."""
    heard = {person: True}
    steps = [(person, friend) for friend in friends]
    while len(steps) > 0:
        near, one = steps.pop()
        heard[one] = True
        slate = slates[one]
        place = slate.index(near)
        for further in slate[max(0, place - memory[one]):place]:
            steps.append((one, further))
    return heard


def least_memories(village, slates, other):
    """The dict from those who have heard of another one, slates being kept, to the least memory by which they have."""
    inward = inward_from(village, other)
    least = {}
    for one in inward:
        near = inward[one]
        if near is None or near == other:
            least[one] = 0
        elif near in least:
            # near ones stand first
            places = slates[near].index(one) - slates[near].index(inward[near])
            if places > 0:
                least[one] = max(least[near], places)
    return least
