"""Points 4.6 and 4.7: the village told back."""

import itertools

from heardsince.clashes import table_clash
from heardsince.errors import BadPeople, BadTable
from heardsince.peopletables import people_clash, ties_of_table
from heardsince.tables import table
from heardsince.villages import Village
from tests import helper
from tests.test_tables import TABLE, all_tables, clash_by_words


def pairs_of(people, passed):
    return [(one, other) for one, other in itertools.combinations(people, 2)
            if other in passed[one] and one in passed[other]]


def clash_by_people(people, passed):
    """The first clash, by going through all that the document says, in its order."""
    ties = pairs_of(people, passed)
    part = {person: {person} for person in people}
    for one, other in ties:
        if other in part[one]:
            return ("round", one, other)
        both = part[one] | part[other]
        for person in both:
            part[person] = both
    for one, other in itertools.combinations(people, 2):
        if other not in part[one]:
            return ("apart", one, other)
    return clash_by_words(Village(people, ties, [1] * len(people)), passed)


class ToldBack(helper.Told):
    """4.6: a table tells who knows whom."""

    def test_all_tables_of_few_people(self):
        for people in (["a"], ["b", "a"], ["b", "c", "a"], ["d", "b", "a", "c"]):
            right = {}
            for ties in helper.trees(people):
                village = Village(people, ties, [1] * len(people))
                ordered = [pair for pair in itertools.combinations(people, 2) if pair in ties or pair[::-1] in ties]
                for slates in helper.all_slates(village):
                    told = helper.table_by_hand(village, slates)
                    self.assertNotIn(repr(told), right)
                    right[repr(told)] = ordered
            for passed in all_tables(people):
                told = {person: [one for one in people if one in passed[person]] for person in passed}
                self.assertTold(ties_of_table(people, passed), right.get(repr(told)))
                self.assertTold(people_clash(people, passed), clash_by_people(people, passed))
                self.assertEqual(people_clash(people, passed) is None, repr(told) in right)

    def test_heard_of_one_another_just_if_friends(self):
        for village in helper.villages(5):
            near = helper.friends(village)
            for slates in helper.all_slates(village):
                told = table(village, slates)
                for one, other in itertools.combinations(village.people(), 2):
                    self.assertEqual(other in told[one] and one in told[other], other in near[one])
                ties = ties_of_table(village.people(), told)
                self.assertTold(ties, [pair for pair in itertools.combinations(village.people(), 2)
                                       if pair[1] in near[pair[0]]])

    def test_one_alone(self):
        self.assertTold(ties_of_table(["a"], {"a": ["a"]}), [])
        self.assertTold(people_clash(("a",), {"a": ("a",)}), None)

    def test_tuples_and_any_order(self):
        people = ("d", "c", "b", "a")
        passed = {person: tuple(reversed(TABLE[person])) for person in "bdac"}
        self.assertTold(ties_of_table(people, passed), [("d", "c"), ("c", "b"), ("b", "a")])
        self.assertTold(people_clash(people, passed), None)

    def test_each_clash(self):
        people = list("abcd")
        self.assertTold(people_clash(people, {one: [one] for one in people}), ("apart", "a", "b"))
        self.assertTold(people_clash(people, {one: people for one in people}), ("round", "b", "c"))
        self.assertTold(people_clash(people, {"a": ["a", "b"], "b": ["a", "b"], "c": ["c", "d"], "d": ["c", "d"]}),
                        ("apart", "a", "c"))
        self.assertTold(people_clash(people, {**TABLE, "a": list("abcd")}), ("far", "a", "d"))
        # a round goes ahead of people apart
        self.assertTold(people_clash(list("abcde"), {"a": ["a"], **{one: list("bcde") for one in "bcde"}}),
                        ("round", "c", "d"))
        self.assertIs(ties_of_table(people, {one: people for one in people}), None)

    def test_sixty_people(self):
        for seed, village in enumerate([helper.star_village(60), helper.row_village(60)]
                                       + helper.some_villages(60, 2, 11)):
            people = village.people()
            told = table(village, helper.drawn_slates(village, seed))
            ties = ties_of_table(people, told)
            self.assertEqual([set(tie) for tie in ties],
                             [set(pair) for pair in itertools.combinations(people, 2)
                              if pair in village.ties() or pair[::-1] in village.ties()])
            for tie in ties:
                self.assertLess(people.index(tie[0]), people.index(tie[1]))
            self.assertTold(people_clash(people, {one: people for one in people}), ("round", people[1], people[2]))
            one, other = ties[30]
            told[one].remove(other)
            self.assertEqual(people_clash(people, told)[0], "apart")
            self.assertEqual(table_clash(village, told)[0], "friends")


class Example(helper.Told):
    """4.7."""

    def test_example(self):
        self.assertTold(ties_of_table(helper.EXAMPLE_PEOPLE, TABLE), helper.EXAMPLE_TIES)
        self.assertTold(people_clash(helper.EXAMPLE_PEOPLE, TABLE), None)
        # with "a" at "c" these two have heard of one another: a, b, c go round
        self.assertTold(people_clash(helper.EXAMPLE_PEOPLE, {**TABLE, "c": list("abcd")}), ("round", "b", "c"))


class Errors(helper.Told):
    """4.6: BadPeople as in 3.1, then BadTable."""

    def test_bad_people(self):
        for function in (ties_of_table, people_clash):
            for thing in helper.any_objects():
                if not isinstance(thing, (list, tuple)) or len(thing) == 0:
                    self.assertRaisesJust(BadPeople, {"index": 0}, function, thing, None)
                self.assertRaisesJust(BadPeople, {"index": 1}, function, ["a", thing, "a"], None)
            self.assertRaisesJust(BadPeople, {"index": 2}, function, ("a", "b", "a"), {})

    def test_bad_table(self):
        for function in (ties_of_table, people_clash):
            for thing in helper.any_objects() + [{one: TABLE[one] for one in "abc"}, {**TABLE, "e": ["e"]}]:
                self.assertRaisesJust(BadTable, {"table": thing}, function, list("abcd"), thing)
            for row in helper.any_objects() + [["b"], ["a", "b", "a"], ["a", "e"], "a", {"a": "a"}]:
                thing = {**TABLE, "a": row}
                self.assertRaisesJust(BadTable, {"table": thing}, function, tuple("abcd"), thing)
