"""Point 14.6 and what 14.7 has of it: sayings of one listener."""

import itertools
import random

from heardsince.errors import BadVillage, NoPerson
from heardsince.listeners import known_sets, not_so
from heardsince.refusals import BadSayings, NotOneListener
from heardsince.villages import Village
from tests import helper
from tests.plain_sayings import are_so, tables_of

EXAMPLE = helper.example_village()
ALONE = Village(["a"], [], [1])
TWO = Village(["a", "b"], [("b", "a")], [1, 1])


def behind_by_way(village, person, other):
    """Another one and all behind that one, from a person."""
    return [one for one in village.people() if other in helper.way(village, person, one)]


def not_so_by_words(village, person, sayings):
    for index, (one, other, heard) in enumerate(sayings):
        if not heard and len(helper.way(village, person, other)) < 3:
            return (index, None)
        if not heard:
            against = [place for place, (who, whom, so) in enumerate(sayings)
                       if so and whom in behind_by_way(village, person, other)]
            if against:
                return (index, against[0])
    return None


class OneListener(helper.Told):

    def test_all_slates(self):
        drawn = random.Random(1421)
        for village in helper.villages(4) + helper.villages(5)[::30] + helper.some_villages(6, 4, 1422):
            tables = tables_of(village)
            for person in village.people():
                for many in range(7):
                    for truths in ((True, False), (True, True, False)):
                        sayings = [(person, drawn.choice(village.people()), drawn.choice(truths)) for _ in range(many)]
                        self.right_ones(village, person, sayings, tables)
                        far = [saying for saying in sayings if len(helper.way(village, *saying[:2])) > 2]
                        self.right_ones(village, person, far, tables)

    def right_ones(self, village, person, sayings, tables):
        right = [table[person] for slates, table in tables if are_so(table, sayings)]
        sets = None
        if right:
            sets = ([one for one in village.people() if all(one in heard for heard in right)],
                    [one for one in village.people() if any(one in heard for heard in right)])
        self.assertTold(known_sets(village, person, sayings), sets)
        self.assertTold(not_so(village, person, helper.as_lists(sayings)), not_so_by_words(village, person, sayings))
        self.assertIs(sets is None, not_so(village, person, sayings) is not None)

    def test_all_sayings_of_a_row(self):
        village = helper.row_village(4)
        tables = tables_of(village)
        every = [("b", other, heard) for other in village.people() for heard in (True, False)]
        for many in range(4):
            for sayings in itertools.product(every, repeat=many):
                self.right_ones(village, "b", list(sayings), tables)

    def test_great_villages(self):
        drawn = random.Random(1423)
        for seed, village in enumerate(helper.great_villages(1424)):
            slates = helper.drawn_slates(village, seed)
            table = helper.simulated(village, helper.any_calendar(village, slates))
            for person in village.people()[::20] + village.people()[-1:]:
                others = [drawn.choice(village.people()) for _ in range(60)]
                sayings = [(person, other, other in table[person]) for other in others]
                self.assertTold(not_so(village, person, sayings), None)
                least, greatest = known_sets(village, person, sayings)
                heard = [other for one, other, so in sayings if so] + village.friends(person)
                right = {one for other in heard + [person] for one in helper.way(village, person, other)}
                self.assertTold(least, [one for one in village.people() if one in right])
                gone = {one for who, other, so in sayings if not so for one in behind_by_way(village, person, other)}
                self.assertTold(greatest, [one for one in village.people() if one not in gone])
                wrong = [(person, other, drawn.choice((True, False))) for other in others]
                self.assertTold(not_so(village, person, wrong), not_so_by_words(village, person, wrong))
                self.assertIs(known_sets(village, person, wrong) is None, not_so(village, person, wrong) is not None)

    def test_one_person_and_two(self):
        self.assertTold(known_sets(ALONE, "a", ()), (["a"], ["a"]))
        self.assertTold(not_so(ALONE, "a", [("a", "a", True)]), None)
        self.assertTold(not_so(ALONE, "a", [("a", "a", True), ("a", "a", False)]), (1, None))
        self.assertTold(known_sets(ALONE, "a", [("a", "a", False)]), None)
        self.assertTold(known_sets(TWO, "b", []), (["a", "b"], ["a", "b"]))
        self.assertTold(not_so(TWO, "b", [("b", "a", False)]), (0, None))

    def test_not_one_listener(self):
        for function in (known_sets, not_so):
            for sayings, index in (([("b", "a", True)], 0), ([("a", "b", True), ("a", "c", False), ("b", "a", True)], 2),
                                   ([("a", "a", False), ["d", "a", True], ("c", "a", True)], 1)):
                self.assertRaisesJust(NotOneListener, {"index": index}, function, EXAMPLE, "a", sayings)

    def test_errors_in_order(self):
        for function in (known_sets, not_so):
            for thing in helper.any_objects() + [[("b", "a", 1)], [("b", "e", True)]]:
                if not isinstance(thing, Village):
                    self.assertRaisesJust(BadVillage, {"thing": thing}, function, thing, None, None)
                self.assertRaisesJust(NoPerson, {"person": thing}, function, EXAMPLE, thing, None)
                if thing not in ([], ()):
                    self.assertRaisesJust(BadSayings, {"index": 0}, function, EXAMPLE, "a", thing)
                    # of another listener, but what is no saying at all goes first
                    self.assertRaisesJust(BadSayings, {"index": 1}, function, EXAMPLE, "a", [("b", "a", True), thing])

    def test_example(self):
        self.assertTold(known_sets(EXAMPLE, "a", [("a", "d", False)]), (["a", "b"], ["a", "b", "c"]))
        self.assertTold(not_so(EXAMPLE, "a", [("a", "d", True), ("a", "c", False)]), (1, 0))
