"""Slates by which wishes to hear are heard with a told memory: JUST ONE of them and a clash."""

from heardsince.clashes import pairs_in_order
from heardsince.forgetful import check_memory, check_wishes
from heardsince.sayings import first_row, shortest_ring


def slates_for_wishes(village, memory, wishes):
    """Slates by which, with this memory, all wishes are heard, None if there are none."""
    if wishes_clash(village, memory, wishes) is not None:
        return None
    steps = steps_of(village, wishes)
    found = {}
    for person in village.people():
        friends = village.friends(person)
        if is_short(memory[person], friends):
            found[person] = joined_rows(friends, steps[person])
        else:
            found[person] = first_row(friends, steps[person])
    return found


def wishes_clash(village, memory, wishes):
    """None, or what is the first thing that cannot be, of the first person for whom there is such a thing."""
    check_memory(village, memory)
    check_wishes(village, wishes)
    steps = steps_of(village, wishes)
    for person in village.people():
        clash = clash_of_steps(memory[person], village.friends(person), steps[person])
        if clash is not None:
            return (clash[0], person) + clash[1:]
    return None


def steps_of(village, wishes):
    """The dict from people to the lists of their steps (x, y), by x, then by y, in the village's order."""
    stepped = {}
    for one, other in wishes:
        way = village.way(other, one)
        for ahead, person, behind in zip(way, way[1:], way[2:]):
            stepped[(person, ahead, behind)] = True
    return {person: [(x, y) for x in village.friends(person) for y in village.friends(person)
                     if (person, x, y) in stepped]
            for person in village.people()}


def is_short(many, friends):
    """Whether somebody who remembers so many meetings tells what was heard last alone, and not all."""
    return many == 1 and many < len(friends) - 1


def clash_of_steps(many, friends, steps):
    """What a clash tells behind its person's name, with its word ahead, None if all steps can be made."""
    if many == 0 and len(steps) > 0:
        return ("mute",) + steps[0]
    if is_short(many, friends):
        for x in friends:
            for y, z in pairs_in_order(friends):
                if (x, y) in steps and (x, z) in steps:
                    return ("fork", x, y, z)
        for x in friends:
            for y, z in pairs_in_order(friends):
                if (y, x) in steps and (z, x) in steps:
                    return ("join", x, y, z)
    ring = shortest_ring(friends, steps)
    if ring is not None:
        return ("ring", ring)
    return None


def joined_rows(friends, steps):
    """The row of all friends in which each who makes a step stands right ahead of the one to whom it leads."""
    behind = {x: y for x, y in steps}
    later = {y: True for x, y in steps}
    row = []
    for first in friends:
        if first not in later:
            row.append(first)
            while row[-1] in behind:
                row.append(behind[row[-1]])
    return row
