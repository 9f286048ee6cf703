"""What the tests share: small villages, all their slates and calendars, and answers told by going through all."""

import fractions
import functools
import itertools
import random
import unittest

from heardsince import errors, refusals
from heardsince.desks import Desk
from heardsince.villages import Village

NAMES = ["b", "a", "d", "c", "x9", "longname"]


class Told(unittest.TestCase):
    """Compares also kinds and the order of dicts: a tuple is no list here, True no 1."""

    def assertTold(self, told, right):
        self.assertEqual(repr(told), repr(right))

    def assertRaisesJust(self, kind, attributes, function, *args, **more):
        """That a call raises just this error, which keeps the very objects."""
        try:
            told = function(*args, **more)
        except errors.HeardError as error:
            self.assertIs(type(error), kind, (function, args))
            self.assertEqual(set(vars(error)), set(attributes))
            for name, thing in attributes.items():
                if name == "index":
                    self.assertTold(error.index, thing)
                else:
                    self.assertIs(getattr(error, name), thing)
        else:
            self.fail(f"{function.__name__}{args} told {told}, no {kind.__name__}")


def deep(kind, depth=50):
    """A thing within others, fifty deep."""
    thing = 3
    for _ in range(depth):
        thing = {"list": lambda: [thing], "tuple": lambda: (thing,), "dict": lambda: {"a": thing}}[kind]()
    return thing


def any_objects():
    """Objects of all kinds of ANY OBJECT that are right nowhere where more than one number or name is asked for."""
    return [
        -1, -10 ** 30, True, False, None, "", "A", "ab cd", "_a", "1a", "ninesigns", "\u00e9", "a\n", "a\u00b2",
        [], (), {}, [[]], ([],), {(): ()}, [None], [True], ["a", ["a"]], {"a": {}}, {1: 2}, {None: None}, {True: []},
        {("a", "b"): 1}, {len: len}, lambda: 3, any_objects, len, Village, errors.HeardError,
        errors.BadPeople(3), errors.HeardError(), Village(["a"], [], [1]), Village(["a", "b"], [("b", "a")], [1, 2]),
        [Village(["a"], [], [1])], {"a": Village(["a"], [], [1])}, deep("list"), deep("tuple"), deep("dict"),
        Desk(Village(["a", "b"], [("a", "b")], [1, 1])), [Desk(Village(["a"], [], [1]))], refusals.BadWeek(3),
        refusals.NoGoBetween("a", []), {errors.BadDays(1): 2},
    ]


def no_functions():
    """Those of any_objects that are no functions and no classes."""
    return [thing for thing in any_objects() if not callable(thing)]


def trees(people):
    """All lists of ties that join people, each one way round, in an order and ways round that differ."""
    pairs = list(itertools.combinations(people, 2))
    found = []
    for ties in itertools.combinations(pairs, len(people) - 1):
        if is_tree(people, ties):
            turn = len(found)
            row = [tie if (turn + place) % 2 else tie[::-1] for place, tie in enumerate(ties)]
            found.append(row[turn % max(1, len(row)):] + row[:turn % max(1, len(row))])
    return found


def is_tree(people, ties):
    part = {person: person for person in people}
    for one, other in ties:
        if part[one] == part[other]:
            return False
        part = {person: part[one] if part[person] == part[other] else part[person] for person in people}
    return len(set(part.values())) == 1


def villages(most, news=(3, 1, 2, 5, 1, 4)):
    """All villages of one to most people, of three news for the first one, and so on."""
    found = []
    for many in range(1, most + 1):
        for ties in trees(NAMES[:many]):
            found.append(Village(NAMES[:many], ties, list(news[:many])))
    return found


def some_villages(many, count, seed, most_news=4):
    """Villages of so many people that differ, drawn by a seed."""
    drawn = random.Random(seed)
    found = []
    for _ in range(count):
        people = [letter_name(place) for place in range(many)]
        drawn.shuffle(people)
        ties = []
        for place in range(1, many):
            tie = [people[place], people[drawn.randrange(place)]]
            drawn.shuffle(tie)
            ties.append(tuple(tie))
        drawn.shuffle(ties)
        order = list(people)
        drawn.shuffle(order)
        found.append(Village(order, ties, [drawn.randint(1, most_news) for _ in order]))
    return found


def letter_name(place):
    return "abcdefghijklmnopqrstuvwxyz"[place % 26] + ("" if place < 26 else str(place // 26))


def row_village(many, news=None):
    """People in a row."""
    people = [letter_name(place) for place in range(many)]
    return Village(people, list(zip(people, people[1:])), news or [1] * many)


def star_village(many, news=None):
    """One person with all others as friends, who stands last."""
    people = [letter_name(place) for place in range(many)]
    return Village(people, [(one, people[-1]) for one in people[:-1]], news or [1] * many)


def friends(village):
    """The dict from people to their friends in the village's order, straight from the ties."""
    ties = set(village.ties() + [(other, one) for one, other in village.ties()])
    return {one: [other for other in village.people() if (one, other) in ties] for one in village.people()}


@functools.lru_cache(maxsize=400)
def all_ways(people, ties):
    """The dict from all pairs of people to the way from one to the other, by growing ways."""
    near = {person: [] for person in people}
    for one, other in ties:
        near[one].append(other)
        near[other].append(one)
    found = {}
    for one in people:
        ways = [(one,)]
        while ways:
            found.update({(one, row[-1]): row for row in ways})
            ways = [row + (friend,) for row in ways for friend in near[row[-1]] if friend not in row]
    return found


def way(village, one, other):
    """The way from one to other."""
    return list(all_ways(tuple(village.people()), tuple(village.ties()))[one, other])


def all_slates(village):
    """All slates in the order of the document."""
    near = friends(village)
    rows = [list(itertools.permutations(near[person])) for person in village.people()]
    return [{person: list(slate) for person, slate in zip(village.people(), slates)}
            for slates in itertools.product(*rows)]


def all_calendars(village):
    """All calendars in the order of the document."""
    return [list(calendar) for calendar in itertools.permutations(village.ties())]


def simulated(village, meetings):
    """Who has heard of whom behind these meetings, as sets, by letting them happen."""
    heard = {person: {person} for person in village.people()}
    for one, other in meetings:
        both = heard[one] | heard[other]
        heard[one] = heard[other] = both
    return heard


def gifts_by_hand(village, slates):
    """The lots of people whose news each one told each friend, as sets, by letting the meetings happen."""
    heard = {person: {person} for person in village.people()}
    told = {}
    for one, other in any_calendar(village, slates):
        told[one, other] = heard[one]
        told[other, one] = heard[other]
        heard[one] = heard[other] = heard[one] | heard[other]
    return told


def pairs_of_friends(village):
    """All pairs of friends, by one, then by other, in the village's order."""
    near = friends(village)
    return [(one, other) for one in village.people() for other in near[one]]


def subsets(things):
    """All lists of some of the things, in their order."""
    return [list(some) for many in range(len(things) + 1) for some in itertools.combinations(things, many)]


def in_order(village, heard):
    """The table of sets as it is told."""
    return {person: [other for other in village.people() if other in heard[person]] for person in village.people()}


def met_rows(village, meetings):
    """Whom each has met, in order, by these meetings."""
    rows = {person: [] for person in village.people()}
    for one, other in meetings:
        rows[one].append(other)
        rows[other].append(one)
    return rows


def any_calendar(village, slates):
    """Some calendar with these slates, or meetings with these begun ones: met as soon as both have the turn."""
    left = {person: list(slate) for person, slate in slates.items()}
    meetings = []
    ready = True
    while ready:
        ready = [(one, other) for one, other in village.ties()
                 if left[one][:1] == [other] and left[other][:1] == [one]]
        for one, other in ready:
            meetings.append((one, other))
            left[one].pop(0)
            left[other].pop(0)
    return meetings


def table_by_hand(village, slates):
    return in_order(village, simulated(village, any_calendar(village, slates)))


def numbers_by_hand(village, slates):
    """The ledger of slates, or of begun ones."""
    own = dict(zip(village.people(), village.news()))
    heard = simulated(village, any_calendar(village, slates))
    return {person: sum(own[one] for one in heard[person]) for person in village.people()}


def drawn_slates(village, seed):
    """Some slates, drawn by a seed."""
    drawn = random.Random(seed)
    slates = friends(village)
    for slate in slates.values():
        drawn.shuffle(slate)
    return slates


def as_tuples(thing):
    """A thing with tuples in the place of all its lists."""
    if isinstance(thing, (list, tuple)):
        return tuple(as_tuples(part) for part in thing)
    if isinstance(thing, dict):
        return {key: as_tuples(part) for key, part in reversed(thing.items())}
    return thing


def as_lists(thing):
    """A thing with lists in the place of all its tuples, but those in keys."""
    if isinstance(thing, (list, tuple)):
        return [as_lists(part) for part in thing]
    if isinstance(thing, dict):
        return {key: as_lists(part) for key, part in thing.items()}
    return thing


EXAMPLE_PEOPLE = ["a", "b", "c", "d"]
EXAMPLE_TIES = [("a", "b"), ("b", "c"), ("c", "d")]
EXAMPLE_CALENDAR = [("b", "c"), ("a", "b"), ("c", "d")]
EXAMPLE_SLATES = {"a": ["b"], "b": ["c", "a"], "c": ["b", "d"], "d": ["c"]}


def example_village():
    return Village(EXAMPLE_PEOPLE, EXAMPLE_TIES, [1, 1, 1, 1])


def turned_keys(thing):
    """A dict from meetings with all of them the other way round, and in the other order."""
    return {(other, one): thing[one, other] for one, other in reversed(list(thing))}


def great_villages(seed):
    """A row, a star and other villages of sixty."""
    return [row_village(60), star_village(60)] + some_villages(60, 3, seed, 10 ** 15)


def steps_from(start, beside):
    """The dict from the reprs of all that can be reached to in how few steps; beside tells what is one step off."""
    found = {repr(start): 0}
    near = [start]
    while near:
        further = []
        for here in near:
            for thing in beside(here):
                if repr(thing) not in found:
                    found[repr(thing)] = found[repr(here)] + 1
                    further.append(thing)
        near = further
    return found


def exchanges_of(row):
    """All rows in which two neighbours have changed places."""
    return [row[:place] + [row[place + 1], row[place]] + row[place + 2:] for place in range(len(row) - 1)]


def slate_exchanges(slates):
    """All slates in which two neighbours of one slate have changed places."""
    return [{**slates, person: slate} for person in slates for slate in exchanges_of(slates[person])]


def rises(slates, row):
    """Whether a way, told as a list of people, rises by slates."""
    return all(slates[person].index(ahead) < slates[person].index(behind)
               for ahead, person, behind in zip(row, row[1:], row[2:]))


def doors(row):
    """The doors of a way, each the way round in which it is gone through."""
    return list(zip(row, row[1:]))


def turned_about(slates):
    """Slates with each list turned about."""
    return {person: list(slate)[::-1] for person, slate in slates.items()}


def view_by_hand(village, slates, person):
    """A person's view, by letting the meetings happen."""
    told = gifts_by_hand(village, slates)
    return [(friend, [one for one in village.people() if one in told[friend, person]]) for friend in slates[person]]


def small_villages(seed):
    """All villages of up to four people, some of five and six."""
    return villages(4) + villages(5)[-40::8] + some_villages(6, 2, seed)


def part_of(right, every):
    """What part of all things are right, a fraction as the package tells it."""
    found = fractions.Fraction(len([thing for thing in every if right(thing)]), len(every))
    return (found.numerator, found.denominator)
