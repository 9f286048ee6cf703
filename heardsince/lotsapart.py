"""Lots of people that hang together: fewest people with one in each lot, and as many lots as can be with none in two.

They are equally many: whoever of a lot is nearest to the village's first person is in all lots that have somebody of
this one and come no farther out.
"""

from heardsince.villages import doors_inward, inward_from


def fewest_and_apart(village, lots):
    """The list of fewest people, in the village's order, and that of the places of most lots apart, ascending.

    lots are lists, or dicts, of one or more people each.
    """
    doors = doors_inward(inward_from(village, village.people()[0]))
    tops = [min(list(lot), key=lambda person: doors[person]) for lot in lots]
    chosen = {}
    apart = []
    for place in sorted(list(range(len(lots))), key=lambda at: -doors[tops[at]]):
        if not any([person in chosen for person in lots[place]]):
            chosen[tops[place]] = True
            apart.append(place)
    return [person for person in village.people() if person in chosen], sorted(apart)
