"""Points 12.1, 12.2 and what 12.6 has of them: rounds, falls, what is heard behind so many of them."""

import itertools

from heardsince.errors import BadRounds, BadSlates, BadVillage, NoPerson
from heardsince.rounds import (falls, heard_in, last_to_hear, ledger_behind, rounds_for, rounds_of, table_behind)
from heardsince.villages import Village
from tests import helper

EXAMPLE = helper.example_village()
SLATES = helper.EXAMPLE_SLATES
ALONE = Village(["a"], [], [7])
TWO = Village(["a", "b"], [("b", "a")], [2, 3])
SOME = helper.villages(4) + helper.villages(5)[-25::4] + helper.some_villages(6, 4, 1201)


def falls_by_words(village, slates, one, other):
    way = helper.way(village, other, one)
    return sum(slates[person].index(behind) < slates[person].index(ahead)
               for ahead, person, behind in zip(way, way[1:], way[2:]))


def tables_by_rounds(village, slates, rounds):
    """The tables of sets behind 0, 1, .. rounds, by holding a calendar again and again."""
    calendar = helper.any_calendar(village, slates)
    return [helper.simulated(village, calendar * many) for many in range(rounds + 1)]


class Falls(helper.Told):
    """12.1."""

    def test_all_slates(self):
        for village in SOME:
            totals = set()
            for slates in helper.all_slates(village):
                total = 0
                for one, other in itertools.product(village.people(), repeat=2):
                    many = falls_by_words(village, slates, one, other)
                    self.assertTold(falls(village, helper.as_tuples(slates), one, other), many)
                    total += many
                    if one != other:
                        back = falls(village, slates, other, one)
                        self.assertEqual(many + back, len(helper.way(village, one, other)) - 2)
                totals.add(total)
            self.assertEqual(len(totals), 1)

    def test_behind_rounds_just_with_fewer_falls(self):
        for village in SOME:
            for slates in helper.all_slates(village):
                tables = tables_by_rounds(village, slates, 4)
                for one, other in itertools.permutations(village.people(), 2):
                    many = falls(village, slates, one, other)
                    self.assertEqual([other in table[one] for table in tables],
                                     [many < rounds for rounds in range(5)])


class BehindSoMany(helper.Told):
    """12.2."""

    def right_rounds(self, village, slates, tables):
        """tables are those behind 0, 1, .. rounds, all having heard of all by the last one."""
        own = dict(zip(village.people(), village.news()))
        first = {}
        for one, other in itertools.product(village.people(), repeat=2):
            first[one, other] = [other in table[one] for table in tables].index(True)
            self.assertTold(heard_in(village, slates, one, other), first[one, other])
        for rounds, table in list(enumerate(tables)) + [(10 ** 9, tables[-1])]:
            self.assertTold(table_behind(village, slates, rounds), helper.in_order(village, table))
            self.assertTold(ledger_behind(village, slates, rounds),
                            {one: sum(own[other] for other in table[one]) for one in village.people()})
        for person in village.people():
            self.assertTold(rounds_of(village, slates, person),
                            max(many for (one, other), many in first.items() if one == person))
        most = max(first.values())
        self.assertTold(rounds_for(village, slates), most)
        last = [pair for pair, many in first.items() if many == most and pair[0] != pair[1]]
        self.assertTold(last_to_hear(village, slates), last[0] if last else None)

    def test_all_slates(self):
        for village in SOME:
            for slates in helper.all_slates(village):
                self.right_rounds(village, slates, tables_by_rounds(village, slates, 5))

    def test_one_person_and_two(self):
        self.right_rounds(ALONE, {"a": []}, [{"a": {"a"}}])
        self.assertTold(last_to_hear(ALONE, {"a": ()}), None)
        self.assertTold(rounds_for(ALONE, {"a": []}), 0)
        two = {"a": ["b"], "b": ["a"]}
        self.right_rounds(TWO, two, tables_by_rounds(TWO, two, 2))
        self.assertTold(last_to_hear(TWO, two), ("a", "b"))
        self.assertTold(falls(TWO, two, "a", "b"), 0)
        self.assertTold(falls(TWO, two, "a", "a"), 0)

    def test_great_villages(self):
        for seed, village in enumerate(helper.great_villages(1202)):
            slates = helper.drawn_slates(village, seed)
            most = max(falls_by_words(village, slates, one, other) + 1
                       for one, other in itertools.permutations(village.people(), 2))
            self.right_rounds(village, slates, tables_by_rounds(village, slates, most))

    def test_a_row_there_in_one_round_back_in_most(self):
        row = helper.row_village(60)
        rising = helper.friends(row)
        last = row.people()[59]
        self.assertTold(heard_in(row, rising, last, "a"), 1)
        self.assertTold(heard_in(row, rising, "a", last), 59)
        self.assertTold(last_to_hear(row, rising), ("a", last))
        self.assertTold(rounds_for(row, rising), 59)
        self.assertTold(table_behind(row, rising, 0), {person: [person] for person in row.people()})

    def test_bad_rounds(self):
        for function in (table_behind, ledger_behind):
            for thing in helper.any_objects():
                self.assertRaisesJust(BadRounds, {"rounds": thing}, function, EXAMPLE, SLATES, thing)

    def test_errors_in_order(self):
        calls = ((falls, (None, None)), (heard_in, (None, None)), (table_behind, (None,)), (ledger_behind, (None,)),
                 (rounds_of, (None,)), (rounds_for, ()), (last_to_hear, ()))
        for thing in helper.any_objects():
            for function, more in calls:
                if not isinstance(thing, Village):
                    self.assertRaisesJust(BadVillage, {"thing": thing}, function, thing, None, *more)
                self.assertRaisesJust(BadSlates, {"slates": thing}, function, EXAMPLE, thing, *more)
            for function in (falls, heard_in):
                self.assertRaisesJust(NoPerson, {"person": thing}, function, EXAMPLE, SLATES, thing, None)
                self.assertRaisesJust(NoPerson, {"person": thing}, function, EXAMPLE, SLATES, "a", thing)
            self.assertRaisesJust(NoPerson, {"person": thing}, rounds_of, EXAMPLE, SLATES, thing)

    def test_example(self):
        self.assertTold(falls(EXAMPLE, SLATES, "d", "a"), 1)
        self.assertTold(falls(EXAMPLE, SLATES, "a", "d"), 1)
        self.assertTold(heard_in(EXAMPLE, SLATES, "d", "a"), 2)
        self.assertTold(heard_in(EXAMPLE, SLATES, "a", "d"), 2)
        self.assertTold(rounds_for(EXAMPLE, SLATES), 2)
        self.assertTold(last_to_hear(EXAMPLE, SLATES), ("a", "d"))
