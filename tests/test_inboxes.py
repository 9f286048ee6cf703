"""Points 7.4 and 7.6: ledgers that lie within a box."""

import random

from heardsince.errors import BadBox, BadVillage
from heardsince.inboxes import count_in_box, numbers_in_box, slates_in_box, sure_in_box
from heardsince.villages import Village
from tests import helper
from tests.test_lacking import STAR, ledgers_by_hand, sure_by_words
from tests.test_ledgers import all_numbers

EXAMPLE = helper.example_village()
ALL = (slates_in_box, count_in_box, numbers_in_box, sure_in_box)


class Boxes(helper.Told):
    """7.4: from .. to."""

    def right(self, village, every, box):
        found = [(numbers, slates) for numbers, slates in every
                 if all(box[person][0] <= numbers[person] <= box[person][1] for person in numbers)]
        self.assertTold(slates_in_box(village, box), found[0][1] if found else None)
        self.assertTold(count_in_box(village, box), len(found))
        self.assertTold(numbers_in_box(village, box), {person: sorted({numbers[person] for numbers, slates in found})
                                                       for person in village.people()})
        self.assertTold(sure_in_box(village, box), sure_by_words(village, [slates for numbers, slates in found]))
        return len(found)

    def test_drawn_boxes(self):
        drawn = random.Random(61)
        counts = {}
        cases = helper.villages(4) + helper.some_villages(5, 25, 62) + helper.some_villages(6, 10, 63)
        for village in cases + helper.some_villages(7, 3, 64, 10 ** 15) + [helper.star_village(6, [3, 1, 2, 1, 2, 1])]:
            every = ledgers_by_hand(village)
            top = sum(village.news())
            for _ in range(12):
                numbers = drawn.choice(every)[0]
                box = {}
                for person in drawn.sample(village.people(), len(village.people())):
                    low = max(0, numbers[person] - drawn.choice([0, 1, 2, top, top]) + drawn.choice([0] * 7 + [1]))
                    box[person] = (low, low + drawn.choice([0, 1, 2, top, top, top]))
                counts[min(9, self.right(village, every, box))] = True
        self.assertLessEqual({0, 1, 2, 3, 4, 6, 9}, set(counts))

    def test_all_within_and_none(self):
        for village in helper.villages(4):
            every = ledgers_by_hand(village)
            top = sum(village.news())
            for span, many in (((0, top), len(every)), ((0, 10 ** 18), len(every)), ((0, 0), 0),
                               ((top + 1, 10 ** 18), 0)):
                self.assertEqual(self.right(village, every, {person: span for person in village.people()}), many)

    def test_one_number_for_each(self):
        cases = helper.villages(3)
        cases += [Village(list("badc"), ties, [1, 1, 2, 1]) for ties in helper.trees(list("badc"))[::3]]
        for village in cases:
            every = ledgers_by_hand(village)
            found = 0
            for numbers in all_numbers(village, 1):
                box = {person: (number, number) for person, number in numbers.items()}
                count = count_in_box(village, box)
                self.assertIn(count, (0, 1))
                found += count
                self.assertEqual(slates_in_box(village, box) is None, count == 0)
            self.assertEqual(found, len(every))
            for numbers, slates in every:
                self.assertTold(slates_in_box(village, {person: [n, n] for person, n in numbers.items()}), slates)

    def test_one_span_each_at_each_person(self):
        for village in helper.some_villages(5, 4, 65):
            every = ledgers_by_hand(village)
            top = sum(village.news())
            for person in village.people():
                for low in range(top + 1):
                    for high in range(low, top + 1):
                        box = {one: (0, top) for one in village.people()}
                        box[person] = (low, high)
                        right = sum(low <= numbers[person] <= high for numbers, slates in every)
                        self.assertTold(count_in_box(village, box), right)

    def test_eight_people(self):
        star = helper.star_village(8, [10 ** 15] * 8)
        wide = {person: (0, 10 ** 18) for person in star.people()}
        self.assertTold(count_in_box(star, wide), 5040)
        self.assertTold(slates_in_box(star, wide), helper.all_slates(star)[0])
        self.assertTold(numbers_in_box(star, wide)["c"], [many * 10 ** 15 for many in range(2, 9)])
        self.assertTold(sure_in_box(star, wide), [])
        row = helper.row_village(8)
        self.assertTold(count_in_box(row, {person: (0, 8) for person in row.people()}), 64)
        for village in helper.some_villages(8, 4, 66):
            every = ledgers_by_hand(village)
            middle = {person: (number - 1, number + 1) for person, number in every[len(every) // 2][0].items()}
            self.right(village, every, middle)

    def test_one_person_and_two(self):
        alone = Village(["a"], [], [3])
        for box, many in (({"a": (3, 3)}, 1), ({"a": [0, 3]}, 1), ({"a": (3, 9)}, 1), ({"a": (0, 2)}, 0),
                          ({"a": (4, 4)}, 0)):
            self.assertTold(count_in_box(alone, box), many)
            self.assertTold(slates_in_box(alone, box), {"a": []} if many else None)
            self.assertTold(numbers_in_box(alone, box), {"a": [3] * many})
            self.assertTold(sure_in_box(alone, box), [])
        two = Village(["a", "b"], [("b", "a")], [2, 3])
        self.assertTold(count_in_box(two, {"a": (5, 5), "b": (0, 5)}), 1)
        self.assertTold(count_in_box(two, {"a": (5, 5), "b": (0, 4)}), 0)
        self.assertTold(numbers_in_box(two, {"a": (5, 5), "b": (0, 4)}), {"a": [], "b": []})

    def test_bad_box(self):
        box = {one: (0, 4) for one in "abcd"}
        wrong = helper.any_objects() + [{one: (0, 4) for one in "abc"}, {**box, "e": (0, 4)}, list(box.items()),
                                        {**{one: (0, 4) for one in "abc"}, "e": (0, 4)}]
        for thing in helper.any_objects():
            wrong += [{**box, "d": thing}, {**box, "a": (thing, 4)}, {**box, "a": [0, thing]}]
        wrong += [{**box, "c": pair} for pair in ((1, 0), (0,), (0, 1, 2), (-1, 4), (True, 4), (0, True), "04", (4, 3))]
        for thing in wrong:
            for function in ALL:
                self.assertRaisesJust(BadBox, {"box": thing}, function, EXAMPLE, thing)

    def test_bad_village(self):
        for thing in helper.any_objects():
            if not isinstance(thing, Village):
                for function in ALL:
                    self.assertRaisesJust(BadVillage, {"thing": thing}, function, thing, None)


class Example(helper.Told):
    """7.6, the boxes, number by number."""

    def test_example(self):
        box = {"c": (2, 4), "x": (3, 4), "y": (2, 4), "z": (2, 4)}
        self.assertTold(count_in_box(STAR, box), 4)
        self.assertTold(sure_in_box(STAR, box), [])
        self.assertTold(numbers_in_box(STAR, box)["x"], [3, 4])
        self.assertTold(slates_in_box(STAR, box), {"c": ["y", "x", "z"], "x": ["c"], "y": ["c"], "z": ["c"]})
