"""Points 5.5, 5.6 and 5.8: begun slates, and moments one behind another."""

import itertools
import random

from heardsince.begunledgers import begun_break, begun_ledger, begun_of_ledger, moments_calendar, moments_fault
from heardsince.errors import BadBegun, BadLedger, BadLedgers, BadVillage
from heardsince.ledgers import ledger
from heardsince.villages import Village
from tests import helper
from tests.test_ledgers import all_numbers, break_by_words, cases, own_news, rim_order

EXAMPLE = helper.example_village()
FIRST = {"a": 1, "b": 2, "c": 2, "d": 1}


def all_begun(village):
    """All begun slates."""
    found = []
    for many in range(len(village.ties()) + 1):
        for ties in itertools.combinations(village.ties(), many):
            met = {person: [] for person in village.people()}
            for one, other in ties:
                met[one].append(other)
                met[other].append(one)
            for rows in itertools.product(*[list(itertools.permutations(met[person])) for person in met]):
                found.append({person: list(row) for person, row in zip(met, rows)})
    return found


def fault_by_words(village, known, ledgers):
    """The first fault, by a dict from ledgers to begun slates."""
    ahead = {person: [] for person in village.people()}
    for index, numbers in enumerate(ledgers):
        begun = known.get(repr({person: numbers[person] for person in village.people()}))
        if begun is None:
            return ("break", index)
        if any(begun[person][:len(ahead[person])] != ahead[person] for person in ahead):
            return ("back", index)
        ahead = begun
    return None


def numbers_after(village, calendar):
    """The ledgers behind 0, 1, 2 .. meetings."""
    own = own_news(village)
    found = []
    for many in range(len(calendar) + 1):
        heard = helper.simulated(village, calendar[:many])
        found.append({person: sum(own[one] for one in heard[person]) for person in village.people()})
    return found


def has_moments(village, calendar, ledgers):
    """Whether these ledgers are what is known behind some numbers of meetings that do not fall."""
    moments = numbers_after(village, calendar)
    least = 0
    for numbers in ledgers:
        fitting = [many for many in range(least, len(moments)) if moments[many] == numbers]
        if not fitting:
            return False
        least = fitting[0]
    return True


class Begun(helper.Told):
    """5.5: just one of begun slates and a break."""

    def test_there_and_back(self):
        for village in helper.villages(4) + helper.villages(5)[-10:] + helper.some_villages(5, 3, 17, 10 ** 15):
            had = {}
            every = all_begun(village)
            for begun in every:
                numbers = helper.numbers_by_hand(village, begun)
                had[repr(numbers)] = True
                self.assertTold(begun_ledger(village, begun), numbers)
                self.assertTold(begun_ledger(village, helper.as_tuples(begun)), numbers)
                self.assertTold(begun_of_ledger(village, numbers), begun)
                self.assertIs(begun_break(village, numbers), None)
            self.assertEqual(len(had), len(every))

    def test_all_numbers(self):
        for village, more in cases():
            right = {repr(helper.numbers_by_hand(village, begun)): begun for begun in all_begun(village)}
            order = rim_order(village)
            for numbers in all_numbers(village, more):
                begun = right.get(repr(numbers))
                self.assertTold(begun_of_ledger(village, numbers), begun)
                fault = begun_break(village, numbers)
                self.assertTold(fault, break_by_words(village, numbers, own_news(village), True, order))
                self.assertEqual(fault is None, begun is not None)

    def test_some_numbers_otherwise(self):
        for seed, village in enumerate(helper.some_villages(8, 40, 18)):
            drawn = random.Random(seed)
            calendar = village.ties()
            drawn.shuffle(calendar)
            numbers = numbers_after(village, calendar)[drawn.randrange(8)]
            for person in village.people():
                for more in (-2, -1, 1, 2):
                    changed = {**numbers, person: max(0, numbers[person] + more)}
                    fault = begun_break(village, changed)
                    self.assertTold(fault, break_by_words(village, changed, own_news(village), True))
                    self.assertEqual(begun_of_ledger(village, changed) is None, fault is not None)

    def test_nobody_met_and_all_met(self):
        self.assertTold(begun_of_ledger(EXAMPLE, {one: 1 for one in "abcd"}), {"a": [], "b": [], "c": [], "d": []})
        self.assertTold(begun_of_ledger(EXAMPLE, {one: 3 for one in "abcd"}), helper.EXAMPLE_SLATES)
        self.assertTold(begun_of_ledger(Village(["a"], [], [5]), {"a": 5}), {"a": []})
        self.assertTold(begun_break(Village(["a"], [], [5]), {"a": 6}), ("a", 1, []))
        self.assertTold(begun_break(EXAMPLE, {"a": 1, "b": 1, "c": 2, "d": 1}), ("b", -1, [(1, 1)]))
        self.assertTold(begun_break(EXAMPLE, {"a": 2, "b": 1, "c": 1, "d": 1}), ("a", 1, []))
        self.assertTold(begun_break(EXAMPLE, {"a": 1, "b": 1, "c": 1, "d": 0}), ("d", -1, []))

    def test_bad_begun(self):
        begun = {"a": ["b"], "b": ["a"], "c": ["d"], "d": ["c"]}
        self.assertTold(begun_ledger(EXAMPLE, begun), {"a": 2, "b": 2, "c": 2, "d": 2})
        wrong = helper.any_objects() + [{one: begun[one] for one in "abc"}, {**begun, "e": []}, list(begun.items())]
        for row in helper.any_objects():
            if row != [] and row != ():
                wrong += [{**begun, "a": row}]
            wrong += [{**begun, "a": ["b", row]}]
        for person, row in (("a", []), ("a", ["b", "b"]), ("a", ["c"]), ("a", ["a"]), ("a", "b"), ("b", []),
                            ("b", ["a", "c"]), ("b", ["c"]), ("b", ["c", "a"]), ("c", []), ("d", ()), ("d", "c"),
                            ("a", {"b": 1}), ("a", ["e"])):
            wrong += [{**begun, person: row}]
        for thing in wrong:
            self.assertRaisesJust(BadBegun, {"begun": thing}, begun_ledger, EXAMPLE, thing)

    def test_sixty_people(self):
        for seed, village in enumerate([helper.row_village(60, [10 ** 15] * 60), helper.star_village(60)]
                                       + helper.some_villages(60, 3, 19, 10 ** 15)):
            drawn = random.Random(seed)
            calendar = village.ties()
            drawn.shuffle(calendar)
            begun = helper.met_rows(village, calendar[:35])
            numbers = numbers_after(village, calendar)[35]
            self.assertTold(begun_ledger(village, begun), numbers)
            self.assertTold(begun_of_ledger(village, numbers), begun)
            numbers[village.people()[20]] += 10 ** 17
            self.assertIs(begun_of_ledger(village, numbers), None)
            self.assertTold(begun_break(village, numbers),
                            break_by_words(village, numbers, own_news(village), True))


class Moments(helper.Told):
    """5.6: just one of a calendar and a fault."""

    def test_all_pairs_and_threes_of_ledgers(self):
        for village in helper.villages(3) + helper.villages(4)[4::7]:
            known = {repr(helper.numbers_by_hand(village, begun)): begun for begun in all_begun(village)}
            every = [helper.numbers_by_hand(village, begun) for begun in all_begun(village)]
            wrong = {person: 0 for person in village.people()}
            drawn = random.Random(20)
            rows = [list(row) for row in itertools.product(every + [wrong], repeat=2)]
            rows += [[drawn.choice(every + [wrong]) for _ in range(3)] for _ in range(300)]
            for ledgers in rows + [[one] for one in every + [wrong]]:
                self.right(village, known, ledgers)

    def right(self, village, known, ledgers):
        fault = fault_by_words(village, known, ledgers)
        self.assertTold(moments_fault(village, ledgers), fault)
        fitting = [calendar for calendar in helper.all_calendars(village) if has_moments(village, calendar, ledgers)]
        self.assertEqual(fault is None, len(fitting) > 0)
        self.assertTold(moments_calendar(village, ledgers), fitting[0] if fitting else None)

    def test_moments_of_calendars(self):
        for seed, village in enumerate(helper.villages(4)[3:] + helper.some_villages(6, 25, 21)):
            drawn = random.Random(seed)
            calendars = helper.all_calendars(village)
            moments = numbers_after(village, drawn.choice(calendars))
            places = sorted(drawn.randrange(len(moments)) for _ in range(drawn.randint(1, 4)))
            ledgers = [moments[place] for place in places]
            self.assertIs(moments_fault(village, ledgers), None)
            right = next(calendar for calendar in calendars if has_moments(village, calendar, ledgers))
            self.assertTold(moments_calendar(village, tuple(ledgers)), right)

    def test_the_first_fault_by_index(self):
        none = {one: 0 for one in "abcd"}
        alone = {one: 1 for one in "abcd"}
        self.assertTold(moments_fault(EXAMPLE, [none]), ("break", 0))
        self.assertTold(moments_fault(EXAMPLE, [alone, none]), ("break", 1))
        self.assertTold(moments_fault(EXAMPLE, [FIRST, alone, none]), ("back", 1))
        self.assertTold(moments_fault(EXAMPLE, [FIRST, none, alone]), ("break", 1))
        self.assertTold(moments_fault(EXAMPLE, [FIRST, FIRST, {one: 3 for one in "abcd"}, alone]), ("back", 3))
        self.assertIs(moments_calendar(EXAMPLE, [FIRST, alone]), None)
        self.assertIs(moments_calendar(EXAMPLE, [none]), None)

    def test_back_though_all_know_more(self):
        # a list that holds the one ahead, but not as its beginning
        village = helper.row_village(3)
        ahead, behind = {"a": 2, "b": 2, "c": 1}, {"a": 3, "b": 3, "c": 2}
        self.assertTold(moments_fault(village, [ahead, behind]), ("back", 1))

    def test_first_calendar(self):
        village = Village(list("abcd"), [("c", "d"), ("b", "c"), ("a", "b")], [1] * 4)
        self.assertTold(moments_calendar(village, [{one: 1 for one in "abcd"}]), village.ties())
        self.assertTold(moments_calendar(village, [{"a": 2, "b": 2, "c": 1, "d": 1}]),
                        [("a", "b"), ("c", "d"), ("b", "c")])
        self.assertTold(moments_calendar(village, [{one: 2 for one in "abcd"}]),
                        [("c", "d"), ("a", "b"), ("b", "c")])

    def test_one_person_and_two(self):
        self.assertTold(moments_calendar(Village(["a"], [], [3]), [{"a": 3}, {"a": 3}]), [])
        self.assertTold(moments_fault(Village(["a"], [], [3]), [{"a": 3}]), None)
        self.assertTold(moments_fault(Village(["a"], [], [3]), [{"a": 3}, {"a": 4}]), ("break", 1))
        two = Village(["a", "b"], [("b", "a")], [3, 4])
        self.assertTold(moments_calendar(two, ({"a": 3, "b": 4}, {"b": 7, "a": 7})), [("b", "a")])
        self.assertTold(moments_fault(two, ({"b": 7, "a": 7}, {"a": 3, "b": 4})), ("back", 1))

    def test_eighty_ledgers_of_sixty_people(self):
        for seed, village in enumerate([helper.row_village(60), helper.star_village(60)]
                                       + helper.some_villages(60, 2, 22, 10 ** 15)):
            drawn = random.Random(seed)
            calendar = village.ties()
            drawn.shuffle(calendar)
            moments = numbers_after(village, calendar)
            ledgers = [moments[place * 59 // 79] for place in range(80)]
            self.assertIs(moments_fault(village, ledgers), None)
            self.assertTold(moments_calendar(village, ledgers), calendar)
            few = [moments[place] for place in (0, 20, 20, 45)]
            told = moments_calendar(village, few)
            self.assertEqual(sorted(told), sorted(village.ties()))
            self.assertTrue(has_moments(village, told, few))
            places = [village.ties().index(meeting) for meeting in told]
            self.assertEqual(places[45:], sorted(places[45:]))
            self.assertTold(moments_fault(village, ledgers[:40] + ledgers[30:70]), ("back", 40))
            self.assertTold(moments_fault(village, ledgers[:79] + [{**ledgers[79], "a": 0}]), ("break", 79))

    def test_bad_ledgers(self):
        for function in (moments_fault, moments_calendar):
            for thing in helper.any_objects():
                if not isinstance(thing, (list, tuple)) or len(thing) == 0:
                    self.assertRaisesJust(BadLedgers, {"index": 0}, function, EXAMPLE, thing)
                self.assertRaisesJust(BadLedgers, {"index": 0}, function, EXAMPLE, [thing, None])
                self.assertRaisesJust(BadLedgers, {"index": 1}, function, EXAMPLE, (FIRST, thing, FIRST, thing))
                self.assertRaisesJust(BadLedgers, {"index": 1}, function, EXAMPLE, [FIRST, {**FIRST, "a": thing}])
            self.assertRaisesJust(BadLedgers, {"index": 0}, function, EXAMPLE, FIRST)
            for number in (-1, True, False, None, "1"):
                self.assertRaisesJust(BadLedgers, {"index": 2}, function, EXAMPLE,
                                      [{one: 0 for one in "abcd"}, FIRST, {**FIRST, "d": number}])
            self.assertRaisesJust(BadLedgers, {"index": 0}, function, EXAMPLE, [{one: 1 for one in "abc"}])
            self.assertRaisesJust(BadLedgers, {"index": 0}, function, EXAMPLE, [{one: 1 for one in "abcde"}])


class Example(helper.Told):
    """5.8, the begun ones."""

    def test_example(self):
        self.assertTold(begun_of_ledger(EXAMPLE, FIRST), {"a": [], "b": ["c"], "c": ["b"], "d": []})
        self.assertTold(begun_ledger(EXAMPLE, {"a": [], "b": ["c"], "c": ["b"], "d": []}), FIRST)
        self.assertTold(moments_fault(EXAMPLE, [FIRST, {"a": 2, "b": 2, "c": 1, "d": 1}]), ("back", 1))
        self.assertTold(moments_fault(EXAMPLE, [FIRST, ledger(EXAMPLE, helper.EXAMPLE_SLATES)]), None)
        self.assertTold(moments_calendar(EXAMPLE, [FIRST]), [("b", "c"), ("a", "b"), ("c", "d")])


class Errors(helper.Told):
    """Which errors are due, and which go first."""

    def test_bad_village(self):
        for thing in helper.any_objects():
            if not isinstance(thing, Village):
                for function in (begun_ledger, begun_of_ledger, begun_break, moments_fault, moments_calendar):
                    self.assertRaisesJust(BadVillage, {"thing": thing}, function, thing, None)

    def test_bad_ledger(self):
        wrong = helper.any_objects() + [{**FIRST, "d": thing} for thing in helper.any_objects()]
        for thing in wrong + [{one: 1 for one in "abc"}, {**FIRST, "e": 1}]:
            for function in (begun_of_ledger, begun_break):
                self.assertRaisesJust(BadLedger, {"ledger": thing}, function, EXAMPLE, thing)
