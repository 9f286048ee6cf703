"""Points 5.1 to 5.4, 5.7 and 5.8: ledgers and fame, and from them back to slates."""

import itertools

from heardsince.errors import BadFame, BadLedger, BadSlates, BadVillage
from heardsince.ledgerbreaks import fame_break, ledger_break, slates_of_fame, slates_of_ledger
from heardsince.ledgers import fame, ledger
from heardsince.tables import turned
from heardsince.villages import Village
from tests import helper

EXAMPLE = helper.example_village()
SLATES = helper.EXAMPLE_SLATES
THREES = {"a": 3, "b": 3, "c": 3, "d": 3}


def rim_order(village):
    """The triples (person, friend further in, friends behind)."""
    people = village.people()
    ways = {one: helper.way(village, one, people[0]) for one in people}
    found = []
    for person in sorted(people, key=lambda one: (-len(ways[one]), people.index(one))):
        inward = (ways[person] + [None])[1]
        found.append((person, inward, [friend for friend in people if ways[friend][1:2] == [person]]))
    return found


def break_by_words(village, numbers, own, begun=False, order=None):
    """The first person who does not fit, by trying all places for the friend further in."""
    told = {}
    for person, inward, behind in order or rim_order(village):
        pairs = sorted(told[friend] for friend in behind if told[friend] != (0, 0))
        front = numbers[person] - own[person] - sum(gave for given, gave in pairs)
        if inward is None:
            rows = [pairs] if front == 0 else []
        elif begun and front == 0:
            rows = [pairs]
        elif front >= 1:
            rows = [pairs[:place] + [(None, front)] + pairs[place:] for place in range(len(pairs) + 1)]
        else:
            rows = []
        right = [row for row in rows if goes_through(own[person], row)]
        assert len(right) <= 1
        if not right:
            return (person, front, pairs)
        if (None, front) in right[0]:
            place = right[0].index((None, front))
            told[person] = (front, own[person] + sum(gave for given, gave in right[0][:place]))
        else:
            told[person] = (0, 0)
    return None


def goes_through(own, row):
    total = own
    for given, gave in row:
        if given is not None and given != total:
            return False
        total += gave
    return True


def own_news(village):
    return dict(zip(village.people(), village.news()))


def cases():
    """Villages with few news, and how much more than all of them is tried."""
    found = [(village, 2) for village in helper.villages(3)]
    for news in ([1, 1, 1, 1], [1, 2, 1, 1], [2, 1, 1, 2]):
        for ties in helper.trees(["b", "a", "d", "c"])[len(set(news)) - 1::3]:
            found.append((Village(["b", "a", "d", "c"], ties, news), 1))
    return found


def all_numbers(village, more):
    top = sum(village.news()) + more
    for numbers in itertools.product(range(top + 1), repeat=len(village.people())):
        yield dict(zip(village.people(), numbers))


class Ledgers(helper.Told):
    """5.1: what each has heard."""

    def test_what_meetings_tell(self):
        for village in helper.villages(5) + helper.some_villages(6, 2, 12, 10 ** 15):
            for slates in helper.all_slates(village):
                self.assertTold(ledger(village, slates), helper.numbers_by_hand(village, slates))
                self.assertTold(ledger(village, helper.as_tuples(slates)), helper.numbers_by_hand(village, slates))

    def test_one_person_and_two(self):
        self.assertTold(ledger(Village(["a"], [], [4]), {"a": []}), {"a": 4})
        two = Village(["b", "a"], [("a", "b")], [4, 10 ** 15])
        self.assertTold(ledger(two, {"a": ["b"], "b": ["a"]}), {"b": 4 + 10 ** 15, "a": 4 + 10 ** 15})

    def test_bad_ledger(self):
        wrong = helper.any_objects() + [{one: 3 for one in "abc"}, {**THREES, "e": 3}, {"e": 3, **{one: 3 for one in "abc"}},
                                        [3, 3, 3, 3], list(THREES.items())]
        wrong += [{**THREES, "d": thing} for thing in helper.any_objects() + [-1, True, False, "3", [3], (3,), None]]
        for thing in wrong:
            for function in (slates_of_ledger, ledger_break):
                self.assertRaisesJust(BadLedger, {"ledger": thing}, function, EXAMPLE, thing)
            for function in (slates_of_fame, fame_break):
                self.assertRaisesJust(BadFame, {"fame": thing}, function, EXAMPLE, thing)


class TheNumbersAloneTellAll(helper.Told):
    """5.2 and 5.3: just one of slates and a break."""

    def test_back(self):
        for village in helper.villages(5) + helper.some_villages(6, 4, 13, 10 ** 15):
            had = {}
            for slates in helper.all_slates(village):
                numbers = helper.numbers_by_hand(village, slates)
                had[repr(numbers)] = True
                self.assertTold(slates_of_ledger(village, numbers), slates)
                self.assertIs(ledger_break(village, numbers), None)
            self.assertEqual(len(had), len(helper.all_slates(village)))

    def test_all_numbers(self):
        for village, more in cases():
            right = {repr(helper.numbers_by_hand(village, slates)): slates for slates in helper.all_slates(village)}
            found = 0
            order = rim_order(village)
            for numbers in all_numbers(village, more):
                slates = right.get(repr(numbers))
                self.assertTold(slates_of_ledger(village, numbers), slates)
                fault = ledger_break(village, numbers)
                self.assertTold(fault, break_by_words(village, numbers, own_news(village), False, order))
                self.assertEqual(fault is None, slates is not None)
                found += slates is not None
            self.assertEqual(found, len(right))

    def test_one_or_two_numbers_otherwise(self):
        fronts = {}
        for seed, village in enumerate(helper.some_villages(9, 60, 14) + [helper.star_village(6)] * 5):
            numbers = ledger(village, helper.drawn_slates(village, seed))
            for person, other in itertools.product(village.people(), repeat=2):
                for more, less in ((1, 0), (1, -1), (-1, -1), (2, 1)):
                    changed = {**numbers, person: max(0, numbers[person] + more)}
                    changed[other] = max(0, changed[other] + less)
                    fault = ledger_break(village, changed)
                    self.assertTold(fault, break_by_words(village, changed, own_news(village)))
                    slates = slates_of_ledger(village, changed)
                    self.assertEqual(slates is None, fault is not None)
                    if slates is not None:
                        self.assertEqual(helper.numbers_by_hand(village, slates), changed)
                    else:
                        fronts[min(2, max(-1, fault[1])), min(3, len(fault[2]))] = True
        self.assertLessEqual({(front, many) for front in (-1, 0, 1, 2) for many in (0, 1, 2, 3)} - {(1, 0), (2, 0)},
                             set(fronts))

    def test_rim_order(self):
        village = Village(list("cabed"), [("a", "b"), ("b", "c"), ("c", "d"), ("d", "e")], [1] * 5)
        zeros = {one: 0 for one in "abcde"}
        self.assertTold(ledger_break(village, zeros), ("a", -1, []))
        self.assertTold(ledger_break(village, {**zeros, "a": 3}), ("e", -1, []))
        self.assertTold(ledger_break(village, {**zeros, "a": 3, "e": 2}), ("b", -2, [(2, 1)]))
        self.assertTold(ledger_break(village, {**zeros, "a": 3, "b": 3, "e": 2}), ("d", -2, [(1, 1)]))

    def test_pairs_ascending(self):
        star = Village(list("mdcba"), [(one, "m") for one in "abcd"], [1] * 5)
        self.assertTold(ledger_break(star, {"m": 5, "a": 5, "b": 4, "c": 2, "d": 4}),
                        ("m", 0, [(1, 1), (3, 1), (3, 1), (4, 1)]))
        self.assertTold(slates_of_ledger(star, {"m": 5, "a": 5, "b": 3, "c": 2, "d": 4}),
                        {"m": ["c", "b", "d", "a"], "d": ["m"], "c": ["m"], "b": ["m"], "a": ["m"]})
        news = Village(list("mba"), [("a", "m"), ("b", "m")], [1, 1, 2])
        self.assertTold(ledger_break(news, {"m": 4, "a": 3, "b": 2}), ("m", 0, [(1, 1), (1, 2)]))

    def test_sixty_people(self):
        cases_of_sixty = [helper.row_village(60, [10 ** 15] * 60), helper.star_village(60, list(range(1, 61)))]
        for seed, village in enumerate(cases_of_sixty + helper.some_villages(60, 4, 15, 10 ** 15)):
            slates = helper.drawn_slates(village, seed)
            numbers = ledger(village, slates)
            self.assertTold(numbers, helper.numbers_by_hand(village, slates))
            self.assertTold(slates_of_ledger(village, numbers), slates)
            for person in village.people()[::9]:
                for number in (numbers[person] + 1, numbers[person] - 1, 0, 10 ** 18):
                    changed = {**numbers, person: number}
                    self.assertIs(slates_of_ledger(village, changed), None)
                    self.assertTold(ledger_break(village, changed),
                                    break_by_words(village, changed, own_news(village)))

    def test_tuples_are_no_numbers_but_dicts_in_any_order_are(self):
        self.assertTold(slates_of_ledger(EXAMPLE, {one: 3 for one in "dbca"}), SLATES)
        self.assertTold(ledger_break(EXAMPLE, {**{one: 3 for one in "dbc"}, "a": 2}), ("a", -1, [(1, 2)]))


class Fame(helper.Told):
    """5.4: how many have heard of each."""

    def test_what_meetings_tell(self):
        for village in helper.villages(5):
            had = {}
            for slates in helper.all_slates(village):
                told = helper.table_by_hand(village, slates)
                right = {person: sum(person in row for row in told.values()) for person in village.people()}
                had[repr(right)] = True
                self.assertTold(fame(village, slates), right)
                self.assertTold(slates_of_fame(village, right), slates)
                self.assertIs(fame_break(village, right), None)
                ones = Village(village.people(), village.ties(), [1] * len(village.people()))
                self.assertTold(ledger(ones, turned(village, slates)), right)
            self.assertEqual(len(had), len(helper.all_slates(village)))

    def test_all_numbers(self):
        for village in helper.villages(3) + helper.villages(4)[-3:]:
            right = {repr(fame(village, slates)): slates for slates in helper.all_slates(village)}
            ones = {person: 1 for person in village.people()}
            for numbers in itertools.product(range(len(ones) + 2), repeat=len(ones)):
                passed = dict(zip(village.people(), numbers))
                self.assertTold(slates_of_fame(village, passed), right.get(repr(passed)))
                self.assertTold(fame_break(village, passed), break_by_words(village, passed, ones))
                self.assertEqual(fame_break(village, passed) is None, repr(passed) in right)

    def test_sixty_people(self):
        for seed, village in enumerate([helper.row_village(60), helper.star_village(60)]
                                       + helper.some_villages(60, 2, 16, 10 ** 15)):
            slates = helper.drawn_slates(village, seed)
            many = fame(village, slates)
            heard = helper.simulated(village, helper.any_calendar(village, slates))
            self.assertTold(many, {person: sum(person in lot for lot in heard.values()) for person in village.people()})
            self.assertTold(slates_of_fame(village, many), slates)
            many[village.people()[30]] += 1
            self.assertIs(slates_of_fame(village, many), None)
            self.assertTold(fame_break(village, many),
                            break_by_words(village, many, {person: 1 for person in village.people()}))


class Facts(helper.Told):
    """5.7: between which numbers a number is."""

    def test_bounds(self):
        for village in helper.villages(5):
            own = own_news(village)
            near = helper.friends(village)
            for slates in helper.all_slates(village):
                for person, number in ledger(village, slates).items():
                    self.assertGreaterEqual(number, own[person] + sum(own[friend] for friend in near[person]))
                    self.assertLessEqual(number, sum(own.values()))

    def test_each_number_between_is_had(self):
        for village in helper.villages(5):
            ones = Village(village.people(), village.ties(), [1] * len(village.people()))
            numbers = [ledger(ones, slates) for slates in helper.all_slates(ones)]
            for person, near in helper.friends(ones).items():
                self.assertEqual({row[person] for row in numbers}, set(range(len(near) + 1, len(ones.people()) + 1)))

    def test_no_two_differ_at_one_person_alone(self):
        for village in helper.villages(4):
            numbers = [ledger(village, slates) for slates in helper.all_slates(village)]
            for one, other in itertools.combinations(numbers, 2):
                self.assertGreaterEqual(sum(one[person] != other[person] for person in one), 2)


class Example(helper.Told):
    """5.8, number by number (begun ones: see test_begunledgers)."""

    def test_example(self):
        self.assertTold(ledger(EXAMPLE, SLATES), THREES)
        self.assertTold(slates_of_ledger(EXAMPLE, THREES), SLATES)
        self.assertIs(ledger_break(EXAMPLE, THREES), None)
        self.assertIs(slates_of_ledger(EXAMPLE, {**THREES, "a": 2}), None)
        self.assertTold(ledger_break(EXAMPLE, {**THREES, "a": 2}), ("a", -1, [(1, 2)]))
        self.assertTold(ledger_break(EXAMPLE, {**THREES, "d": 5}), ("c", 1, [(4, 1)]))
        self.assertTold(fame(EXAMPLE, SLATES), {"a": 2, "b": 4, "c": 4, "d": 2})
        self.assertTold(slates_of_fame(EXAMPLE, {"a": 2, "b": 4, "c": 4, "d": 2}), SLATES)


class Errors(helper.Told):
    """Which errors are due, and which go first."""

    def test_bad_village(self):
        for thing in helper.any_objects():
            if not isinstance(thing, Village):
                for function in (ledger, fame, slates_of_ledger, ledger_break, slates_of_fame, fame_break):
                    self.assertRaisesJust(BadVillage, {"thing": thing}, function, thing, None)

    def test_bad_slates(self):
        for thing in helper.any_objects() + [{**SLATES, "b": ["a"]}, {**SLATES, "b": "ca"}]:
            for function in (ledger, fame):
                self.assertRaisesJust(BadSlates, {"slates": thing}, function, EXAMPLE, thing)
