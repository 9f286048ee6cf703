"""Point 16.5 and what 16.6 has of it: a meeting put last."""

from heardsince.errors import BadSlates, BadVillage, NoPerson, NotFriends
from heardsince.lastmeetings import changed_last, put_last
from heardsince.villages import Village
from tests import helper

EXAMPLE = helper.example_village()
SLATES = helper.EXAMPLE_SLATES
TWO = Village(["a", "b"], [("b", "a")], [2, 3])


class PutLast(helper.Told):

    def right_ones(self, village, slates, one, other, heard, then):
        last = helper.met_rows(village, then)
        self.assertTold(put_last(village, helper.as_tuples(slates), one, other), last)
        now = helper.simulated(village, then)
        pairs = [(hearer, teller) for hearer in village.people() for teller in village.people()]
        only = [(hearer, teller) for hearer, teller in pairs if teller in now[hearer] - heard[hearer]]
        gone = [(hearer, teller) for hearer, teller in pairs if teller in heard[hearer] - now[hearer]]
        self.assertTold(changed_last(village, slates, one, other), (only, gone))

    def check(self, village, slates, ties):
        calendar = helper.any_calendar(village, slates)
        heard = helper.simulated(village, calendar)
        for tie in ties:
            then = [meeting for meeting in calendar if meeting != tie] + [tie]
            for one, other in (tie, tie[::-1]):
                self.right_ones(village, slates, one, other, heard, then)

    def test_all_slates(self):
        for village in helper.small_villages(1631):
            for slates in helper.all_slates(village)[::1 + len(village.people()) // 5]:
                self.check(village, slates, village.ties())

    def test_great_villages(self):
        for seed, village in enumerate(helper.great_villages(1632)):
            self.check(village, helper.drawn_slates(village, seed), village.ties()[::9])

    def test_two_people(self):
        self.assertTold(put_last(TWO, {"a": ("b",), "b": ["a"]}, "a", "b"), {"a": ["b"], "b": ["a"]})
        self.assertTold(changed_last(TWO, {"a": ["b"], "b": ["a"]}, "a", "b"), ([], []))

    def test_errors_in_order(self):
        for function in (put_last, changed_last):
            for thing in helper.any_objects():
                if not isinstance(thing, Village):
                    self.assertRaisesJust(BadVillage, {"thing": thing}, function, thing, None, None, None)
                self.assertRaisesJust(BadSlates, {"slates": thing}, function, EXAMPLE, thing, None, None)
                self.assertRaisesJust(NoPerson, {"person": thing}, function, EXAMPLE, SLATES, thing, "?")
                self.assertRaisesJust(NoPerson, {"person": thing}, function, EXAMPLE, SLATES, "a", thing)
            for other in ("a", "c", "d"):
                self.assertRaisesJust(NotFriends, {"one": "a", "other": other}, function, EXAMPLE, SLATES, "a", other)

    def test_example(self):
        self.assertTold(changed_last(EXAMPLE, SLATES, "b", "c"), ([("b", "d"), ("c", "a")], [("a", "c"), ("d", "b")]))
        self.assertTold(put_last(EXAMPLE, SLATES, "c", "b"), {"a": ["b"], "b": ["a", "c"], "c": ["d", "b"], "d": ["c"]})
