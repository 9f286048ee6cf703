"""Points 3.1 and 3.2: villages and ways."""

import itertools

from heardsince.errors import BadNews, BadPeople, BadTies, NoPerson, NotFriends
from heardsince.villages import Village
from tests import helper


class VillageTold(helper.Told):
    """3.1: what a village tells of itself."""

    def test_tells_what_it_was_made_of(self):
        village = Village(("b", "a", "c1"), [["a", "b"], ("a", "c1")], (10 ** 15, 1, 2))
        self.assertTold(village.people(), ["b", "a", "c1"])
        self.assertTold(village.ties(), [("a", "b"), ("a", "c1")])
        self.assertTold(village.news(), [10 ** 15, 1, 2])

    def test_one_person_alone(self):
        village = Village(["a"], [], [7])
        self.assertTold([village.people(), village.ties(), village.news()], [["a"], [], [7]])
        self.assertTold(village.friends("a"), [])
        self.assertTold(village.way("a", "a"), ["a"])

    def test_names_of_all_kinds(self):
        names = ["a", "z", "a0", "z9", "abcdefgh", "a1234567", "m0n0"]
        ties = list(zip(names, names[1:]))
        self.assertTold(Village(names, ties, [1] * 7).people(), names)

    def test_by_name_of_parameter(self):
        village = Village(news=[1, 2], ties=[("b", "a")], people=["a", "b"])
        self.assertTold([village.people(), village.ties(), village.news()], [["a", "b"], [("b", "a")], [1, 2]])
        self.assertTold(village.friends(person="a"), ["b"])
        self.assertTold(village.way(other="a", one="b"), ["b", "a"])
        self.assertTold(village.behind(other="b", one="a"), ["b"])

    def test_told_lists_are_new(self):
        village = helper.example_village()
        for tell in (village.people, village.ties, village.news, lambda: village.friends("b"),
                     lambda: village.way("a", "d"), lambda: village.behind("a", "b")):
            ahead = repr(tell())
            self.assertIsNot(tell(), tell())
            tell().append("more")
            tell().clear()
            self.assertEqual(repr(tell()), ahead)

    def test_later_changes_of_arguments_have_no_effect(self):
        people, ties, news = ["a", "b"], [["a", "b"]], [1, 2]
        village = Village(people, ties, news)
        people[0] = "z"
        ties[0][0] = "z"
        ties.append("z")
        news[0] = 9
        self.assertEqual(village, Village(["a", "b"], [("a", "b")], [1, 2]))
        self.assertTold(village.way("a", "b"), ["a", "b"])

    def test_arguments_stay(self):
        people, ties, news = ["b", "a"], [["a", "b"]], [1, 2]
        village = Village(people, ties, news)
        village.ties().clear()
        self.assertTold([people, ties, news], [["b", "a"], [["a", "b"]], [1, 2]])

    def test_equal_if_all_three_are(self):
        village = Village(["a", "b", "c"], [("a", "b"), ("b", "c")], [1, 2, 3])
        self.assertTrue(village == Village(("a", "b", "c"), (["a", "b"], ["b", "c"]), (1, 2, 3)))
        self.assertFalse(village != Village(("a", "b", "c"), (["a", "b"], ["b", "c"]), (1, 2, 3)))
        for other in (
                Village(["b", "a", "c"], [("a", "b"), ("b", "c")], [1, 2, 3]),
                Village(["a", "b", "c"], [("b", "a"), ("b", "c")], [1, 2, 3]),
                Village(["a", "b", "c"], [("b", "c"), ("a", "b")], [1, 2, 3]),
                Village(["a", "b", "c"], [("a", "b"), ("a", "c")], [1, 2, 3]),
                Village(["a", "b", "c"], [("a", "b"), ("b", "c")], [1, 2, 4])):
            self.assertFalse(village == other)
            self.assertTrue(village != other)

    def test_equals_none_of_another_class(self):
        village = Village(["a"], [], [1])
        for thing in helper.any_objects():
            if not isinstance(thing, Village):
                self.assertFalse(village == thing)
                self.assertFalse(thing == village)
                self.assertTrue(village != thing)


class BadVillages(helper.Told):
    """3.1: the errors, and their order."""

    def bad_people(self, index, people):
        self.assertRaisesJust(BadPeople, {"index": index}, Village, people, [], [1])

    def bad_ties(self, index, people, ties):
        self.assertRaisesJust(BadTies, {"index": index}, Village, people, ties, None)

    def bad_news(self, index, many, news):
        people = [helper.letter_name(place) for place in range(many)]
        self.assertRaisesJust(BadNews, {"index": index}, Village, people, list(zip(people, people[1:])), news)

    def test_people_no_list_or_empty(self):
        for thing in helper.any_objects():
            if not isinstance(thing, (list, tuple)) or len(thing) == 0:
                self.bad_people(0, thing)

    def test_people_index(self):
        for thing in helper.any_objects():
            self.bad_people(0, [thing, "a"])
            self.bad_people(2, ("a", "b", thing, "c", "a"))
        self.bad_people(1, ["a", "a"])
        self.bad_people(3, ["a", "b", "c", "b", "B"])
        for name in ("", "A", "aB", "0a", "9", "abcdefghi", "a b", " a", "a ", "a-b", "a_b", "a\n", "\u00e4",
                     "a\u0661", "\u0430", "a\u00b2", "`", "{", "a/", "a:"):
            self.bad_people(1, ["a", name])
        self.bad_people(59, [helper.letter_name(place) for place in range(59)] + ["a"])

    def test_ties_no_list(self):
        for thing in helper.any_objects():
            if not isinstance(thing, (list, tuple)):
                self.bad_ties(0, ["a", "b"], thing)
                self.bad_ties(0, ["a"], thing)

    def test_ties_index_of_what_is_no_pair(self):
        for thing in helper.any_objects():
            self.bad_ties(0, ["a", "b"], [thing, ("a", "b")])
            self.bad_ties(1, ["a", "b", "c"], (("a", "b"), thing))
            self.bad_ties(1, ["a", "b", "c"], (("a", "b"), ("c", thing)))
            self.bad_ties(1, ["a", "b", "c"], (("a", "b"), [thing, "c"]))
        for tie in ("ab", ("a",), (), ("a", "b", "b"), ("a", "a"), ("a", "x"), ("x", "a"), {"a": 1, "b": 2}, ("b", "b")):
            self.bad_ties(0, ["a", "b"], [tie])
            self.bad_ties(0, ["a"], [tie])

    def test_ties_twice_and_rings(self):
        self.bad_ties(1, ["a", "b", "c"], [("a", "b"), ("a", "b"), ("b", "c")])
        self.bad_ties(1, ["a", "b", "c"], [("a", "b"), ["b", "a"], ("b", "c")])
        self.bad_ties(2, ["a", "b", "c"], [("a", "b"), ("b", "c"), ("b", "a")])
        self.bad_ties(2, ["a", "b", "c"], [("a", "b"), ("b", "c"), ("c", "a")])
        self.bad_ties(2, ["a", "b", "c"], [("a", "b"), ("b", "c"), "no pair"])
        self.bad_ties(3, list("abcde"), [("a", "b"), ("c", "b"), ("d", "c"), ("a", "d"), ("e", "e")])
        self.bad_ties(3, list("abcd"), [("a", "b"), ("c", "d"), ("b", "c"), ("d", "a")])

    def test_ties_too_few(self):
        self.bad_ties(0, ["a", "b"], [])
        self.bad_ties(1, ["a", "b", "c"], [("a", "c")])
        self.bad_ties(2, list("abcd"), [("a", "b"), ("b", "c")])
        self.bad_ties(2, list("abcd"), (("a", "b"), ("d", "c")))

    def test_all_ties_of_small_villages(self):
        people = ["b", "a", "d", "c"]
        for ties in itertools.product(itertools.permutations(people, 2), repeat=3):
            wrong = [place for place in range(3) if not self.joins(ties[:place + 1])]
            if wrong:
                self.bad_ties(wrong[0], people, ties)
            else:
                self.assertTold(Village(people, ties, [1] * 4).ties(), list(ties))

    @staticmethod
    def joins(ties):
        """Whether each tie joins two parts: so many people fewer parts."""
        part = {name: {name} for tie in ties for name in tie}
        parts = len(part)
        for one, other in ties:
            both = part[one] | part[other]
            for name in both:
                part[name] = both
        return len({frozenset(names) for names in part.values()}) == parts - len(ties)

    def test_news(self):
        for thing in helper.any_objects():
            if not isinstance(thing, (list, tuple)):
                self.bad_news(0, 2, thing)
            self.bad_news(0, 2, [thing, 1])
            self.bad_news(1, 2, (1, thing, 3))
        self.bad_news(1, 2, [1, 0])
        self.bad_news(0, 2, [0, 0])
        self.bad_news(1, 2, [1, True])
        self.bad_news(0, 2, [False, 1])
        self.bad_news(1, 3, [10 ** 15, -1, 2, 2])
        self.bad_news(2, 2, [1, 1, 1])
        self.bad_news(2, 2, [1, 1, 1, 1])
        self.bad_news(2, 2, [1, 1, None])
        self.bad_news(1, 2, [5])
        self.bad_news(0, 1, [])
        self.bad_news(1, 1, (1, 2))
        self.bad_news(60, 60, [1] * 61)
        self.bad_news(59, 60, [1] * 59)

    def test_the_first_parameter_goes_first(self):
        self.assertRaisesJust(BadPeople, {"index": 1}, Village, ["a", "A"], None, None)
        self.assertRaisesJust(BadTies, {"index": 1}, Village, ["a", "b", "c"], [("a", "b")], [0])
        self.assertRaisesJust(BadTies, {"index": 0}, Village, ["a"], None, None)


class Ways(helper.Told):
    """3.2: friends, ways, and who is behind a door."""

    def test_friends_in_the_villages_order(self):
        village = Village(["d", "c", "b", "a"], [("a", "b"), ("c", "a"), ("d", "a")], [1] * 4)
        self.assertTold(village.friends("a"), ["d", "c", "b"])
        self.assertTold(village.friends("d"), ["a"])

    def test_small_villages(self):
        for village in helper.villages(5) + helper.some_villages(9, 10, 1):
            near = helper.friends(village)
            for one in village.people():
                self.assertTold(village.friends(one), near[one])
                for other in village.people():
                    self.assertTold(village.way(one, other), helper.way(village, one, other))

    def test_behind(self):
        village = Village(["d", "c", "b", "a", "e"], [("a", "b"), ("c", "a"), ("d", "a"), ("e", "d")], [1] * 5)
        self.assertTold(village.behind("b", "a"), ["d", "c", "a", "e"])
        self.assertTold(village.behind("a", "d"), ["d", "e"])
        self.assertTold(village.behind("d", "a"), ["c", "b", "a"])
        self.assertTold(village.behind("d", "e"), ["e"])
        for village in helper.villages(5) + helper.some_villages(9, 5, 2):
            for one, other in village.ties() + [tie[::-1] for tie in village.ties()]:
                right = [third for third in village.people() if other in helper.way(village, one, third)]
                self.assertTold(village.behind(one, other), right)

    def test_sixty_people(self):
        row = helper.row_village(60)
        people = row.people()
        self.assertTold(row.way(people[0], people[59]), people)
        self.assertTold(row.way(people[59], people[0]), people[::-1])
        self.assertTold(row.behind(people[29], people[30]), people[30:])
        star = helper.star_village(60)
        people = star.people()
        self.assertTold(star.friends(people[59]), people[:59])
        self.assertTold(star.behind(people[0], people[59]), people[1:])
        self.assertTold(star.way(people[0], people[58]), [people[0], people[59], people[58]])

    def test_no_person(self):
        village = helper.example_village()
        for thing in helper.any_objects() + ["e", ["a"], ("a",), {"a": "a"}, 0]:
            told = {"person": thing}
            self.assertRaisesJust(NoPerson, told, village.friends, thing)
            self.assertRaisesJust(NoPerson, told, village.way, thing, "a")
            self.assertRaisesJust(NoPerson, told, village.way, "a", thing)
            self.assertRaisesJust(NoPerson, told, village.way, thing, "no one")
            self.assertRaisesJust(NoPerson, told, village.behind, thing, "a")
            self.assertRaisesJust(NoPerson, told, village.behind, "a", thing)
            self.assertRaisesJust(NoPerson, told, village.behind, thing, "no one")

    def test_not_friends(self):
        village = helper.example_village()
        for one, other in (("a", "c"), ("d", "a"), ("b", "b")):
            self.assertRaisesJust(NotFriends, {"one": one, "other": other}, village.behind, one, other)
        self.assertRaisesJust(NoPerson, {"person": "e"}, village.behind, "a", "e")
