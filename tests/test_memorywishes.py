"""Point 18.3 and what 18.6 has of it: slates for wishes with a told memory, or a clash."""

import itertools
import random

from heardsince.calendars import is_slates
from heardsince.errors import BadVillage
from heardsince.memorywishes import slates_for_wishes, wishes_clash
from heardsince.refusals import BadMemory, BadWishes
from heardsince.villages import Village
from tests import helper
from tests.plain_memory import everybodys, with_memory

EXAMPLE = helper.example_village()
ALONE = Village(["a"], [], [7])
TWO = Village(["a", "b"], [("b", "a")], [2, 3])
STAR = Village(["a", "b", "c", "d"], [("a", "c"), ("c", "b"), ("d", "c")], [1] * 4)
ONES = {"a": 1, "b": 1, "c": 1, "d": 1}


def steps_by_words(village, wishes, person):
    """The pairs (x, y) of friends who stand beside a person on the way of a wish, x ahead."""
    found = set()
    for one, other in wishes:
        way = helper.way(village, other, one)
        if person in way[1:-1]:
            at = way.index(person)
            found.add((way[at - 1], way[at + 1]))
    return found


def clash_by_words(village, memory, wishes):
    """The first clash as the point tells it, ("ring", person) without its row."""
    for person in village.people():
        near = helper.friends(village)[person]
        steps = steps_by_words(village, wishes, person)
        pairs = [(y, z) for place, y in enumerate(near) for z in near[place + 1:]]
        short = memory[person] == 1 and memory[person] < len(near) - 1
        if memory[person] == 0:
            for x, y in itertools.product(near, repeat=2):
                if (x, y) in steps:
                    return ("mute", person, x, y)
        for word, turn in (("fork", 1), ("join", -1)) if short else ():
            for x in near:
                for y, z in pairs:
                    if (x, y)[::turn] in steps and (x, z)[::turn] in steps:
                        return (word, person, x, y, z)
        if not any(all(row.index(x) < row.index(y) for x, y in steps) for row in itertools.permutations(near)):
            return ("ring", person)
    return None


def right_memory(village, drawn):
    """A memory of 0, 1, or as many as one's friends less one, or more."""
    near = helper.friends(village)
    return {person: drawn.choice((0, 1, 1, 1, len(near[person]) - 1, len(near[person]), 100)) if near[person] else 0
            for person in village.people()}


class Wishes(helper.Told):

    def right_ones(self, village, memory, wishes):
        slates, clash = slates_for_wishes(village, memory, wishes), wishes_clash(village, memory, wishes)
        self.assertIs(slates is None, clash is not None)
        if slates is not None:
            self.assertIs(is_slates(village, slates), True)
            self.assertEqual(list(slates), village.people())
            heard = with_memory(village, slates, memory)[0]
            self.assertTrue(all(other in heard[one] for one, other in wishes))
        elif clash[0] == "ring":
            word, person, row = clash
            self.assertIs(type(row), list)
            self.assertEqual(len(set(row)), len(row))
            self.assertGreater(len(row), 1)
            self.assertLessEqual(set(zip(row, row[1:] + row[:1])), steps_by_words(village, wishes, person))
        return clash

    def test_all_slates(self):
        drawn = random.Random(1811)
        words = set()
        for village in helper.small_villages(1812):
            every = helper.all_slates(village)
            people = village.people()
            for number in range(24):
                memory = right_memory(village, drawn)
                wishes = [(drawn.choice(people), drawn.choice(people)) for _ in range(drawn.choice((0, 1, 2, 3, 5)))]
                clash = self.right_ones(village, memory, wishes)
                right = clash_by_words(village, memory, wishes)
                self.assertTold(clash and (clash[:2] if clash[0] == "ring" else clash), right)
                words.add(clash and clash[0])
                heard = any(all(other in now[one] for one, other in wishes)
                            for now in (with_memory(village, slates, memory)[0] for slates in every))
                self.assertIs(clash is None, heard)
        self.assertEqual(words, {None, "mute", "fork", "join", "ring"})

    def test_a_star_by_all_lots_of_wishes(self):
        village = helper.star_village(4)
        outer = village.people()[:3]
        pairs = list(itertools.permutations(outer, 2))
        for number in (0, 1, 2, 3):
            for wishes in helper.subsets(pairs):
                memory = everybodys(village, number)
                clash = self.right_ones(village, memory, wishes)
                right = clash_by_words(village, memory, wishes)
                self.assertTold(clash and (clash[:2] if clash[0] == "ring" else clash), right)

    def test_great_villages(self):
        drawn = random.Random(1813)
        for seed, village in enumerate(helper.great_villages(1814)):
            slates = helper.drawn_slates(village, seed)
            people = village.people()
            for number in (0, 1, 100):
                memory = everybodys(village, number)
                heard = with_memory(village, slates, memory)[0]
                wishes = [drawn.choice([(one, other) for other in heard[one]])
                          for one in drawn.choices(people, k=40)]
                self.assertTold(self.right_ones(village, memory, wishes), None)
                far = [(drawn.choice(people), drawn.choice(people)) for _ in range(40)]
                self.right_ones(village, memory, far)
                self.right_ones(village, memory, wishes[:20] + far[:20])

    def test_rows_stand_right_behind_one_another(self):
        village = helper.star_village(7)
        middle = village.people()[6]
        memory = everybodys(village, 1)
        wishes = [("a", "e"), ("b", "a"), ("c", "f")]
        slates = slates_for_wishes(village, memory, wishes)
        row = "".join(slates[middle])
        self.assertTrue("eab" in row and "fc" in row)
        self.assertEqual(wishes_clash(village, memory, wishes + [("e", "b")])[0], "ring")

    def test_equal_answers_in_any_order(self):
        drawn = random.Random(1815)
        for village in helper.some_villages(9, 12, 1816):
            people = village.people()
            memory = right_memory(village, drawn)
            wishes = [(drawn.choice(people), drawn.choice(people)) for _ in range(4)]
            for function in (slates_for_wishes, wishes_clash):
                self.assertTold(function(village, dict(reversed(memory.items())), tuple(map(list, wishes[::-1] + wishes))),
                                function(village, memory, wishes))

    def test_one_person_and_two(self):
        self.assertTold(slates_for_wishes(ALONE, {"a": 0}, [("a", "a")]), {"a": []})
        self.assertTold(wishes_clash(ALONE, {"a": 0}, []), None)
        self.assertTold(slates_for_wishes(TWO, {"a": 0, "b": 0}, [("a", "b"), ("b", "a"), ("b", "b")]), {"a": ["b"], "b": ["a"]})

    def test_no_wishes(self):
        for village in helper.small_villages(1817):
            self.assertTold(wishes_clash(village, everybodys(village, 0), ()), None)
            self.assertIs(is_slates(village, slates_for_wishes(village, everybodys(village, 1), [])), True)

    def test_errors(self):
        wrong = [(thing, 0) for thing in helper.any_objects() if thing not in ([], ())]
        wrong += [([("a", "b"), ("a", "e")], 1), ([("a", "a"), ["b", "c"], ("a",)], 2), ("ab", 0), ([("a", "b"), None], 1)]
        for function in (slates_for_wishes, wishes_clash):
            for thing, index in wrong:
                self.assertRaisesJust(BadWishes, {"index": index}, function, EXAMPLE, ONES, thing)
            for thing in helper.any_objects() + [{**ONES, "a": -1}, {**ONES, "e": 1}, {**ONES, "d": False}]:
                self.assertRaisesJust(BadMemory, {"memory": thing}, function, EXAMPLE, thing, None)
                if not isinstance(thing, Village):
                    self.assertRaisesJust(BadVillage, {"thing": thing}, function, thing, None, None)

    def test_example(self):
        wishes = [("b", "a"), ("d", "a")]
        self.assertTold(wishes_clash(STAR, ONES, wishes), ("fork", "c", "a", "b", "d"))
        self.assertTold(slates_for_wishes(STAR, ONES, wishes), None)
        self.assertTold(wishes_clash(STAR, {**ONES, "c": 2}, wishes), None)
        self.assertTold(wishes_clash(STAR, ONES, [("a", "b"), ("a", "d")]), ("join", "c", "a", "b", "d"))
        self.assertTold(wishes_clash(STAR, {**ONES, "c": 0}, wishes), ("mute", "c", "a", "b"))
