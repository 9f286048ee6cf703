"""Points 20.1 to 20.3 and 20.5 and what 20.7 has of them: threads, lamps, the round, side by side."""

from heardsince.errors import BadCalendar, BadMany, BadSlates, BadVillage, NoPerson
from heardsince.tables import turned
from heardsince.threads import ends, lamps, round_of, sides, thread
from heardsince.villages import Village
from tests import helper

EXAMPLE = helper.example_village()
SLATES = helper.EXAMPLE_SLATES
CALENDAR = helper.EXAMPLE_CALENDAR
ALONE = Village(["a"], [], [7])
TWO = Village(["a", "b"], [("b", "a")], [2, 3])
BOTH = {"a": ["b"], "b": ["a"]}


def thread_by_hand(village, slates, person):
    """The people to whom it comes from a person on who takes each next meeting of whoever they are with."""
    row = [person]
    for one, other in helper.any_calendar(village, slates):
        if row[-1] in (one, other):
            row.append(other if row[-1] == one else one)
    return row


def lamps_by_hand(village, calendar):
    """Whose lamp each holds, ahead of the first meeting and behind each."""
    lamp = {person: person for person in village.people()}
    found = [dict(lamp)]
    for one, other in calendar:
        lamp[one], lamp[other] = lamp[other], lamp[one]
        found.append(dict(lamp))
    return found


class Threads(helper.Told):

    def right_ones(self, village, slates):
        people = village.people()
        rows = {person: thread_by_hand(village, slates, person) for person in people}
        for person, row in rows.items():
            self.assertTold(thread(village, slates, person), row)
            # it is a way, and rises
            self.assertEqual(row, helper.way(village, person, row[-1]))
            self.assertTrue(helper.rises(slates, row))
        doors = [door for row in rows.values() for door in helper.doors(row)]
        self.assertEqual(sorted(doors), sorted(helper.pairs_of_friends(village)))
        last = {person: rows[person][-1] for person in people}
        self.assertTold(ends(village, slates), last)
        self.assertEqual(sorted(last.values()), sorted(people))
        whole = [people[0]]
        for _ in people[1:]:
            whole.append(last[whole[-1]])
        self.assertTold(round_of(village, slates), whole)
        self.assertEqual(sorted(whole), sorted(people))
        self.assertEqual(last[whole[-1]], people[0])
        return last, whole

    def right_sides(self, village, slates, whole):
        for person in village.people():
            told = sides(village, slates, person)
            at = whole.index(person)
            self.assertEqual([person] + [one for row in told for one in row], whole[at:] + whole[:at])
            self.assertEqual([set(row) for row in told],
                             [{one for one in whole if helper.way(village, person, one)[1:2] == [friend]}
                              for friend in slates[person]])
            self.assertTrue(all(type(row) is list for row in told))

    def test_all_slates(self):
        for village in helper.small_villages(2001):
            for slates in helper.all_slates(village):
                last, whole = self.right_ones(village, slates)
                self.right_sides(village, slates, whole)
                about = round_of(village, turned(village, slates))
                self.assertEqual(about, whole[:1] + whole[1:][::-1])

    def test_great_villages(self):
        for seed, village in enumerate(helper.great_villages(2002)):
            slates = helper.as_tuples(helper.drawn_slates(village, seed))
            last, whole = self.right_ones(village, slates)
            self.right_sides(village, slates, whole)
            calendar = helper.any_calendar(village, slates)
            self.assertEqual(lamps(village, calendar, 59), {end: person for person, end in last.items()})
            self.assertTold(lamps(village, calendar, 30), lamps_by_hand(village, calendar)[30])

    def test_lamps(self):
        for village in helper.small_villages(2003):
            for calendar in helper.all_calendars(village)[::1 + len(village.people()) // 5]:
                found = lamps_by_hand(village, calendar)
                about = [list(meeting[::-1]) for meeting in calendar]
                for many, right in enumerate(found):
                    self.assertTold(lamps(village, calendar, many), right)
                    self.assertTold(lamps(village, about, many), right)
                last = ends(village, helper.met_rows(village, calendar))
                self.assertEqual({last[one]: one for one in last}, found[-1])

    def test_an_exchange_in_a_slate(self):
        # two neighbours change places: two neighbouring lots of people do, each as it sits
        for village in helper.small_villages(2004):
            for slates in helper.all_slates(village)[::1 + len(village.people()) // 4]:
                for person in village.people():
                    told = sides(village, slates, person)
                    for place in range(len(told) - 1):
                        row = list(slates[person])
                        row[place:place + 2] = row[place:place + 2][::-1]
                        right = told[:place] + [told[place + 1], told[place]] + told[place + 2:]
                        self.assertTold(sides(village, {**slates, person: row}, person), right)

    def test_one_person_and_two(self):
        self.assertTold(thread(ALONE, {"a": []}, "a"), ["a"])
        self.assertTold(ends(ALONE, {"a": []}), {"a": "a"})
        self.assertTold(lamps(ALONE, [], 0), {"a": "a"})
        self.assertTold(round_of(ALONE, {"a": ()}), ["a"])
        self.assertTold(sides(ALONE, {"a": []}, "a"), [])
        self.assertTold(thread(TWO, BOTH, "b"), ["b", "a"])
        self.assertTold(ends(TWO, BOTH), {"a": "b", "b": "a"})
        self.assertTold(lamps(TWO, [("a", "b")], 1), {"a": "b", "b": "a"})
        self.assertTold(round_of(TWO, BOTH), ["a", "b"])
        self.assertTold(sides(TWO, BOTH, "b"), [["a"]])

    def test_bad_many(self):
        for thing in helper.any_objects() + [4, 10 ** 30, "1"]:
            self.assertRaisesJust(BadMany, {"many": thing}, lamps, EXAMPLE, CALENDAR, thing)
        for thing in helper.any_objects() + [CALENDAR[:2], CALENDAR + CALENDAR[:1]]:
            self.assertRaisesJust(BadCalendar, {"calendar": thing}, lamps, EXAMPLE, thing, None)

    def test_errors_in_order(self):
        for function, more in ((thread, (None,)), (ends, ()), (round_of, ()), (sides, (None,))):
            for thing in helper.any_objects():
                if not isinstance(thing, Village):
                    self.assertRaisesJust(BadVillage, {"thing": thing}, function, thing, None, *more)
                    self.assertRaisesJust(BadVillage, {"thing": thing}, lamps, thing, None, None)
                self.assertRaisesJust(BadSlates, {"slates": thing}, function, EXAMPLE, thing, *more)
                if more:
                    self.assertRaisesJust(NoPerson, {"person": thing}, function, EXAMPLE, SLATES, thing)

    def test_example(self):
        self.assertTold([thread(EXAMPLE, SLATES, one) for one in "abcd"],
                        [["a", "b"], ["b", "c", "d"], ["c", "b", "a"], ["d", "c"]])
        self.assertTold(ends(EXAMPLE, SLATES), {"a": "b", "b": "d", "c": "a", "d": "c"})
        self.assertTold(round_of(EXAMPLE, SLATES), ["a", "b", "d", "c"])
        self.assertTold(sides(EXAMPLE, SLATES, "b"), [["d", "c"], ["a"]])
