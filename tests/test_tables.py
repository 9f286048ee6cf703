"""Points 4.1 to 4.5 and 4.7: tables, all slates by numbers, turned about, lots."""

import itertools
from math import factorial

from heardsince.calendars import has_heard
from heardsince.clashes import slates_of_table, table_clash
from heardsince.errors import BadNumber, BadSlates, BadSome, BadTable, BadVillage, NoPerson
from heardsince.tables import (count_slates, is_table, slates_at, slates_hearing, slates_number, table, turned)
from heardsince.villages import Village
from tests import helper

EXAMPLE = helper.example_village()
SLATES = helper.EXAMPLE_SLATES
TABLE = {"a": ["a", "b", "c"], "b": ["a", "b", "c"], "c": ["b", "c", "d"], "d": ["b", "c", "d"]}
RING = Village(["p", "x", "y", "z"], [("p", "x"), ("y", "p"), ("z", "p")], [1, 1, 1, 1])


def all_tables(people):
    """All tables of people, right or not."""
    rows = []
    for person in people:
        others = [other for other in people if other != person]
        lots = itertools.chain.from_iterable(itertools.combinations(others, many) for many in range(len(people)))
        rows.append([[person, *lot] for lot in lots])
    for lots in itertools.product(*rows):
        yield dict(zip(people, lots))


def clash_by_words(village, passed):
    """The first clash, by going through all that the document says, in its order."""
    people = village.people()
    near = helper.friends(village)

    def heard(one, other):
        return other in passed[one]

    for one, other in itertools.combinations(people, 2):
        if other in near[one] and not (heard(one, other) and heard(other, one)):
            return ("friends", one, other)
    for person in people:
        for x, y in itertools.combinations(near[person], 2):
            if heard(x, y) == heard(y, x):
                return ("both" if heard(x, y) else "neither", person, x, y)
    for person in people:
        for x, y, z in itertools.permutations(near[person], 3):
            if people.index(x) < min(people.index(y), people.index(z)):
                if heard(y, x) and heard(z, y) and heard(x, z):
                    return ("ring", person, x, y, z)
    for one, other in itertools.permutations(people, 2):
        row = helper.way(village, other, one)
        if len(row) >= 4 and heard(one, other) != all(heard(later, ahead) for ahead, later in zip(row, row[2:])):
            return ("far", one, other)
    return None


class Tables(helper.Told):
    """4.1: tables and back."""

    def test_what_meetings_tell(self):
        for village in helper.villages(5):
            for slates in helper.all_slates(village):
                self.assertTold(table(village, slates), helper.table_by_hand(village, slates))

    def test_back(self):
        for village in helper.villages(5):
            had = set()
            for slates in helper.all_slates(village):
                told = table(village, slates)
                had.add(repr(told))
                self.assertIs(is_table(village, told), True)
                self.assertTold(slates_of_table(village, told), slates)
                self.assertIs(table_clash(village, told), None)
                about = {person: tuple(reversed(told[person])) for person in reversed(told)}
                self.assertIs(is_table(village, about), True)
                self.assertTold(slates_of_table(village, about), slates)
            self.assertEqual(len(had), count_slates(village))

    def test_met_ahead_just_if_the_later_one_has_heard(self):
        for village in helper.villages(4):
            for slates in helper.all_slates(village):
                told = table(village, slates)
                for person in village.people():
                    for x, y in itertools.permutations(slates[person], 2):
                        self.assertEqual(slates[person].index(x) < slates[person].index(y), x in told[y])

    def test_is_no_table(self):
        for thing in helper.any_objects():
            self.assertIs(is_table(EXAMPLE, thing), False)
            self.assertIs(is_table(EXAMPLE, {**TABLE, "a": thing}), False)
            self.assertIs(is_table(EXAMPLE, {**TABLE, "a": ["a", "b", "c", thing]}), False)
        for person, row in (("a", ["a", "b", "c", "a"]), ("a", ["a", "b"]), ("a", ["a", "b", "c", "d"]), ("e", ["e"])):
            self.assertIs(is_table(EXAMPLE, {**TABLE, person: row}), False)
        self.assertIs(is_table(EXAMPLE, {one: TABLE[one] for one in "abc"}), False)
        self.assertIs(is_table(EXAMPLE, TABLE), True)
        self.assertIs(is_table(Village(["a"], [], [1]), {"a": ("a",)}), True)
        self.assertIs(is_table(Village(["a"], [], [1]), {"a": []}), False)

    def test_bad_table(self):
        wrong = helper.any_objects() + [{one: TABLE[one] for one in "abc"}, {**TABLE, "e": ["e"]}, list(TABLE.items())]
        for row in helper.any_objects() + [["b", "c"], ["a", "a"], ["a", "e"], "a", {"a": 1}, ["a", "b", "b"]]:
            wrong.append({**TABLE, "a": row})
        wrong += [{**TABLE, "d": ["d", thing]} for thing in helper.any_objects()]
        for thing in wrong:
            self.assertRaisesJust(BadTable, {"table": thing}, table_clash, EXAMPLE, thing)
            self.assertRaisesJust(BadTable, {"table": thing}, slates_of_table, EXAMPLE, thing)
            self.assertIs(is_table(EXAMPLE, thing), False)


class Clashes(helper.Told):
    """4.2: just one of slates and a clash."""

    def test_all_tables_of_small_villages(self):
        for village in helper.villages(3) + [helper.row_village(4), RING, helper.villages(4)[-1]]:
            right = {repr(helper.table_by_hand(village, slates)): slates for slates in helper.all_slates(village)}
            for passed in all_tables(village.people()):
                told = {person: [one for one in village.people() if one in passed[person]] for person in passed}
                self.assertTold(slates_of_table(village, passed), right.get(repr(told)))
                self.assertTold(table_clash(village, passed), clash_by_words(village, passed))
                self.assertEqual(table_clash(village, passed) is None, repr(told) in right)
                self.assertIs(is_table(village, passed), repr(told) in right)

    def test_tables_of_greater_villages_with_some_changes(self):
        kinds = {}
        for seed, village in enumerate(helper.some_villages(7, 40, 8) + [helper.star_village(6)] * 10):
            told = table(village, helper.drawn_slates(village, seed))
            pairs = list(itertools.permutations(village.people(), 2))
            for turn in range(len(pairs)):
                passed = {person: list(row) for person, row in told.items()}
                for one, other in [pairs[turn], pairs[turn * 5 % len(pairs)]][:1 + turn % 2]:
                    passed[one] = [third for third in passed[one] if third != other] if other in passed[one] \
                        else [other] + passed[one]
                clash = clash_by_words(village, passed)
                self.assertTold(table_clash(village, passed), clash)
                self.assertEqual(slates_of_table(village, passed) is None, clash is not None)
                kinds[clash and clash[0]] = True
        self.assertEqual(set(kinds), {"friends", "both", "neither", "far", None})

    def test_rings_among_many_friends(self):
        # all tables of a star have the two friends of each pair one way or the other
        star = Village(["d", "a", "m", "c", "b"], [(one, "m") for one in "dacb"], [1] * 5)
        pairs = list(itertools.combinations("dacb", 2))
        rings = 0
        for ways in itertools.product((0, 1), repeat=len(pairs)):
            passed = {one: [one, "m"] for one in "dacb"}
            passed["m"] = list("damcb")
            for pair, turn in zip(pairs, ways):
                passed[pair[turn]].append(pair[1 - turn])
            clash = clash_by_words(star, passed)
            self.assertTold(table_clash(star, passed), clash)
            rings += clash is not None
            if clash is not None:
                self.assertEqual(clash[0], "ring")
        self.assertEqual(rings, 64 - 24)

    def test_each_kind(self):
        self.assertTold(table_clash(EXAMPLE, {**TABLE, "b": ["a", "b"]}), ("friends", "b", "c"))
        self.assertTold(table_clash(EXAMPLE, {**TABLE, "c": ["c", "d"]}), ("friends", "b", "c"))
        self.assertTold(table_clash(EXAMPLE, {**TABLE, "a": ["a", "b"]}), ("neither", "b", "a", "c"))
        self.assertTold(table_clash(EXAMPLE, {**TABLE, "c": list("abcd")}), ("both", "b", "a", "c"))
        self.assertTold(table_clash(EXAMPLE, {**TABLE, "d": list("abcd")}), ("far", "d", "a"))
        ring = {"p": list("pxyz"), "x": ["x", "p", "z"], "y": ["p", "x", "y"], "z": ["y", "z", "p"]}
        self.assertTold(table_clash(RING, ring), ("ring", "p", "x", "y", "z"))
        ring = {"p": list("pxyz"), "x": ["x", "p", "y"], "y": ["p", "z", "y"], "z": ["x", "z", "p"]}
        self.assertTold(table_clash(RING, ring), ("ring", "p", "x", "z", "y"))

    def test_the_order_of_the_kinds(self):
        nobody = {one: [one] for one in "abcd"}
        self.assertTold(table_clash(EXAMPLE, nobody), ("friends", "a", "b"))
        about = Village(["d", "b", "a", "c"], [("a", "b"), ("b", "c"), ("c", "d")], [1] * 4)
        self.assertTold(table_clash(about, nobody), ("friends", "d", "c"))
        all_of_all = {one: list("abcd") for one in "abcd"}
        self.assertTold(table_clash(EXAMPLE, all_of_all), ("both", "b", "a", "c"))
        friends_alone = {"a": ["a", "b"], "b": ["a", "b", "c"], "c": ["b", "c", "d"], "d": ["c", "d"]}
        self.assertTold(table_clash(EXAMPLE, friends_alone), ("neither", "b", "a", "c"))
        self.assertTold(table_clash(EXAMPLE, {**friends_alone, "c": list("abcd"), "d": list("bcd")}),
                        ("far", "d", "a"))
        # persons go ahead of the word: "neither" at b stands ahead of "both" at c, and the other way about
        mixed = {**friends_alone, "d": list("abcd"), "b": list("abcd")}
        self.assertTold(table_clash(about, mixed), ("neither", "b", "a", "c"))
        about = Village(["d", "c", "a", "b"], [("a", "b"), ("b", "c"), ("c", "d")], [1] * 4)
        self.assertTold(table_clash(about, mixed), ("both", "c", "d", "b"))

    def test_sixty_people(self):
        for seed, village in enumerate([helper.row_village(60), helper.star_village(60)]
                                       + helper.some_villages(60, 3, 9)):
            slates = helper.drawn_slates(village, seed)
            told = table(village, slates)
            self.assertTold(told, helper.table_by_hand(village, slates))
            self.assertIs(is_table(village, told), True)
            self.assertTold(slates_of_table(village, told), slates)
            one, other = village.people()[3], village.people()[40]
            told[one] = [third for third in told[one] if third != other] if other in told[one] else told[one] + [other]
            self.assertIs(slates_of_table(village, told), None)
            clash = table_clash(village, told)
            self.assertEqual(set(clash[1:]) | {one, other}, set(clash[1:]))
        star = helper.star_village(60)
        people = star.people()
        ring = table(star, helper.friends(star))
        ring[people[0]].append(people[58])
        ring[people[58]].remove(people[0])
        self.assertTold(table_clash(star, ring), ("ring", people[59], people[0], people[1], people[58]))


class AllSlates(helper.Told):
    """4.3: all slates by numbers."""

    def test_all_of_small_villages(self):
        for village in helper.villages(5):
            every = helper.all_slates(village)
            self.assertTold(count_slates(village), len(every))
            for number, slates in enumerate(every):
                self.assertTold(slates_at(village, number), slates)
                self.assertTold(slates_number(village, slates), number)
                self.assertTold(slates_number(village, helper.as_tuples(slates)), number)

    def test_order_of_the_document(self):
        village = Village(["d", "m", "a", "c", "b"], [(one, "m") for one in "abc"] + [("d", "a")], [1] * 5)
        every = [slates_at(village, number) for number in range(count_slates(village))]
        near = helper.friends(village)
        keys = [[[near[person].index(friend) for friend in slates[person]] for person in village.people()]
                for slates in every]
        self.assertEqual(keys, sorted(keys))
        self.assertEqual(len(every), 12)

    def test_sixty_people(self):
        star = helper.star_village(60)
        self.assertTold(count_slates(star), factorial(59))
        self.assertTold(count_slates(helper.row_village(60)), 2 ** 58)
        self.assertTold(slates_at(star, factorial(59) - 1)[star.people()[59]], star.people()[58::-1])
        for seed, village in enumerate(helper.some_villages(60, 3, 10) + [star]):
            slates = helper.drawn_slates(village, seed)
            number = slates_number(village, slates)
            self.assertTold(slates_at(village, number), slates)
            self.assertTold(slates_number(village, slates_at(village, number // 3)), number // 3)

    def test_bad_number(self):
        for thing in helper.any_objects() + [4, 5, 10 ** 20, "0", [0], (0,)]:
            self.assertRaisesJust(BadNumber, {"number": thing}, slates_at, EXAMPLE, thing)
        self.assertRaisesJust(BadNumber, {"number": 1}, slates_at, Village(["a"], [], [1]), 1)
        self.assertTold(slates_at(Village(["a"], [], [1]), 0), {"a": []})
        self.assertTold(slates_at(EXAMPLE, 3), {"a": ["b"], "b": ["c", "a"], "c": ["d", "b"], "d": ["c"]})


class TurnedAbout(helper.Told):
    """4.4: each list turned about."""

    def test_heard_just_if_the_other_one_had(self):
        for village in helper.villages(4) + [helper.row_village(5)]:
            for slates in helper.all_slates(village):
                about = turned(village, slates)
                self.assertTold(about, {person: slates[person][::-1] for person in village.people()})
                self.assertTold(turned(village, helper.as_tuples(slates)), about)
                for one, other in itertools.product(village.people(), repeat=2):
                    self.assertIs(has_heard(village, about, one, other), has_heard(village, slates, other, one))


class Lots(helper.Told):
    """4.5: of whom one can have heard."""

    def test_all_lots_of_small_villages(self):
        for village in helper.villages(5):
            people = village.people()
            counts = {}
            for slates in helper.all_slates(village):
                told = helper.table_by_hand(village, slates)
                for person in people:
                    key = person, tuple(told[person])
                    counts[key] = counts.get(key, 0) + 1
            for person in people:
                for many in range(len(people) + 1):
                    for some in itertools.combinations(people, many):
                        right = counts.get((person, some), 0)
                        self.assertTold(slates_hearing(village, person, list(some[::-1])), right)

    def test_lots_hang_together(self):
        for village in helper.villages(4):
            for slates in helper.all_slates(village):
                for lots in (table(village, slates), table(village, turned(village, slates))):
                    for lot in lots.values():
                        for one, other in itertools.combinations(lot, 2):
                            self.assertLessEqual(set(village.way(one, other)), set(lot))

    def test_sixty_people(self):
        row = helper.row_village(60)
        people = row.people()
        self.assertTold(slates_hearing(row, people[0], people), 1)
        self.assertTold(slates_hearing(row, people[0], people[:30]), 2 ** 29)
        self.assertTold(slates_hearing(row, people[0], people[:1]), 0)
        star = helper.star_village(60)
        people = star.people()
        self.assertTold(slates_hearing(star, people[59], people), factorial(59))
        self.assertTold(slates_hearing(star, people[0], people[:20] + people[59:]), factorial(19) * factorial(39))

    def test_bad_some(self):
        for thing in helper.any_objects():
            if not isinstance(thing, (list, tuple)):
                self.assertRaisesJust(BadSome, {"index": 0}, slates_hearing, EXAMPLE, "a", thing)
            self.assertRaisesJust(BadSome, {"index": 0}, slates_hearing, EXAMPLE, "a", [thing, "e"])
            self.assertRaisesJust(BadSome, {"index": 2}, slates_hearing, EXAMPLE, "a", ("b", "c", thing, thing))
        for index, some in ((0, "abc"), (1, ["a", "a"]), (3, ["d", "b", "a", "d", "b"]), (1, ["a", "e"]), (0, ["e"]),
                            (4, list("abcda")), (0, {"a": 1})):
            self.assertRaisesJust(BadSome, {"index": index}, slates_hearing, EXAMPLE, "a", some)
        self.assertTold(slates_hearing(EXAMPLE, "a", []), 0)
        self.assertTold(slates_hearing(EXAMPLE, "a", ()), 0)


class Example(helper.Told):
    """4.7, number by number (ties_of_table: see test_peopletables)."""

    def test_example(self):
        self.assertTold(table(EXAMPLE, SLATES), TABLE)
        self.assertTold(count_slates(EXAMPLE), 4)
        self.assertTold(table_clash(EXAMPLE, {**TABLE, "a": ["a", "b", "c", "d"]}), ("far", "a", "d"))
        self.assertTold(table_clash(EXAMPLE, {**TABLE, "c": ["a", "b", "c", "d"]}), ("both", "b", "a", "c"))
        self.assertTold(slates_number(EXAMPLE, SLATES), 2)
        self.assertTold(slates_hearing(EXAMPLE, "a", ["a", "b", "c"]), 1)
        self.assertTold(slates_hearing(EXAMPLE, "a", ["a", "b"]), 2)
        self.assertTold(slates_hearing(EXAMPLE, "a", ["a", "b", "c", "d"]), 1)


class Errors(helper.Told):
    """Which errors are due, and which go first."""

    def test_bad_village(self):
        for thing in helper.any_objects():
            if not isinstance(thing, Village):
                told = {"thing": thing}
                for function in (table, is_table, slates_of_table, table_clash, slates_at, slates_number, turned):
                    self.assertRaisesJust(BadVillage, told, function, thing, None)
                self.assertRaisesJust(BadVillage, told, count_slates, thing)
                self.assertRaisesJust(BadVillage, told, slates_hearing, thing, None, None)

    def test_bad_slates(self):
        for thing in helper.any_objects() + [{**SLATES, "a": ["c"]}, {**SLATES, "d": "c"}]:
            for function in (table, slates_number, turned):
                self.assertRaisesJust(BadSlates, {"slates": thing}, function, EXAMPLE, thing)

    def test_no_person_ahead_of_bad_some(self):
        for thing in helper.any_objects() + ["e"]:
            self.assertRaisesJust(NoPerson, {"person": thing}, slates_hearing, EXAMPLE, thing, None)
