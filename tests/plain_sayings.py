"""Sayings for the tests: drawn ones, and what they say, straight from the words."""

import itertools

from tests import helper


def tables_of(village):
    """The pairs (slates, their table of sets) of all slates, in order."""
    return [(slates, helper.simulated(village, helper.any_calendar(village, slates)))
            for slates in helper.all_slates(village)]


def are_so(table, sayings):
    return all((other in table[one]) == heard for one, other, heard in sayings)


def is_far(village, saying):
    return not saying[2] and len(helper.way(village, saying[0], saying[1])) > 3


def drawn_sayings(village, many, drawn, truths=(True, False)):
    return [(drawn.choice(village.people()), drawn.choice(village.people()), drawn.choice(truths)) for _ in range(many)]


def true_sayings(village, slates, many, drawn):
    """Sayings that are so by slates."""
    table = helper.simulated(village, helper.any_calendar(village, slates))
    pairs = [(drawn.choice(village.people()), drawn.choice(village.people())) for _ in range(many)]
    return [(one, other, other in table[one]) for one, other in pairs]


def said_by_words(village, saying):
    """The triples (person, x, y) of which a saying says that the person meets x ahead of y."""
    one, other, heard = saying
    way = helper.way(village, other, one)
    inner = [(person, ahead, behind) for ahead, person, behind in zip(way, way[1:], way[2:])]
    if heard:
        return inner
    return [(person, behind, ahead) for person, ahead, behind in inner] if len(inner) == 1 else []


def orders_by_words(village, sayings):
    near = helper.friends(village)
    said = {triple for saying in sayings for triple in said_by_words(village, saying)}
    return {person: [(x, y) for x, y in itertools.product(near[person], repeat=2) if (person, x, y) in said]
            for person in village.people()}


def shortest_by_hand(friends, pairs, x, y):
    """The length of the shortest list of friends from x to y, None if there is none, by growing reach."""
    reached, length = {x}, 1
    while y not in reached:
        more = {behind for ahead, behind in pairs if ahead in reached} - reached
        if not more:
            return None
        reached |= more
        length += 1
    return length


def ring_length(friends, pairs):
    """The length of the shortest ring, None if there is none."""
    found = [shortest_by_hand(friends, pairs, first, last) for last, first in pairs]
    return min([length for length in found if length is not None], default=None)
