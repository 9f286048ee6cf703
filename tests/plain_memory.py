"""What the tests of the forgetful share: who has heard of whom, by letting meetings happen and news be forgotten."""

import random

from tests import helper


def with_memory(village, slates, memory):
    """Two dicts of sets, by letting the meetings happen: who has heard of whom, and whose news each still tells."""
    heard = {person: {person} for person in village.people()}
    # what came at each meeting
    came = {person: [] for person in village.people()}

    def tells(person):
        keeps = came[person][max(0, len(came[person]) - memory[person]):]
        return {person}.union(*keeps)

    for one, other in helper.any_calendar(village, slates):
        first, second = tells(one), tells(other)
        came[one].append(second)
        came[other].append(first)
        heard[one] |= second
        heard[other] |= first
    return heard, {person: tells(person) for person in village.people()}


def drawn_memory(village, seed, most=4):
    drawn = random.Random(seed)
    return {person: drawn.randint(0, most) for person in village.people()}


def everybodys(village, number):
    return {person: number for person in village.people()}


def least_by_words(slates, way):
    """The least memory by which a way is gone, None if it does not rise."""
    places = [slates[person].index(behind) - slates[person].index(ahead)
              for ahead, person, behind in zip(way, way[1:], way[2:])]
    return None if min(places, default=1) < 0 else max(places, default=0)
