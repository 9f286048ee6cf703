"""Section 22: the desk."""

import itertools
import random

from heardsince import refusals
from heardsince.desks import Desk
from heardsince.errors import BadVillage, HeardError, NoPerson, NotFriends
from heardsince.villages import Village
from tests import helper, plain_desk

EXAMPLE = helper.example_village()
NAMES = list("abcdefghijkl") + ["heard", "can", "left", "much", "new1", "longname"]


def desk_of(village, deeds=()):
    desk = Desk(village)
    for deed in deeds:
        desk.do(deed)
    return desk


def met(village, meetings):
    return desk_of(village, [("meet", one, other) for one, other in meetings])


def all_questions(village):
    people = village.people()
    found = [(kind, one, other) for kind in ("heard", "can") for one in people for other in people]
    return found + [(kind, one) for kind in ("much", "most", "known") for one in people] + [("left",)]


def begins(village):
    """All rows of meetings with which some calendar begins."""
    found = {}
    for calendar in helper.all_calendars(village):
        for many in range(len(calendar) + 1):
            found[tuple(calendar[:many])] = True
    return [list(start) for start in found]


class Desks(helper.Told):
    """What the tests of desks share."""

    def same(self, desk, state):
        """That a desk is as a state that was replayed."""
        self.assertEqual(desk.village(), state["village"])
        self.assertTold(desk.held(), state["held"])
        self.assertTold(desk.watched(), [
            (question, plain_desk.answer(state["village"], state["held"], question), is_held)
            for question, is_held in state["watched"]])

    def refused(self, desk, deed, kind, **kept):
        """That a deed is refused and changes nothing."""
        ahead = picture(desk)
        self.assertRaisesJust(kind, kept, desk.do, deed)
        self.assertEqual(picture(desk), ahead)
        if kind is not refusals.WouldChange:
            self.assertRaisesJust(kind, kept, desk.would, deed)
            self.assertEqual(picture(desk), ahead)


def picture(desk):
    """All that a desk tells of itself, what can be done again, too."""
    other = desk.copy()
    again = []
    while other.again() is not None:
        again.append((other.deeds()[-1], other.held(), repr(other.watched()), other.village().people()))
    village = desk.village()
    return (village.people(), village.ties(), village.news(), desk.held(), repr(desk.watched()), desk.deeds(),
            desk.count(), repr(again))


class Begin(Desks):
    """22.1: a village that lives."""

    def test_a_new_desk(self):
        for village in helper.villages(3) + [helper.row_village(12, [10 ** 15] * 12)]:
            desk = Desk(village)
            self.assertIs(type(desk.village()), Village)
            self.assertEqual(desk.village(), village)
            self.assertTold((desk.held(), desk.watched(), desk.deeds(), desk.count()), ([], [], [], 0))
            self.assertTold((desk.undo(), desk.again()), (None, None))
            self.assertEqual(desk, Desk(village=village))

    def test_bad_village(self):
        for thing in helper.any_objects():
            if not isinstance(thing, Village):
                self.assertRaisesJust(BadVillage, {"thing": thing}, Desk, thing)

    def test_watched_as_they_came(self):
        desk = Desk(EXAMPLE)
        desk.do(("watch", ("left",)))
        desk.do(("hold", ("heard", "a", "a")))
        desk.do(("watch", ["much", "b"]))
        desk.do(["hold", ["much", "b"]])
        desk.do(("watch", ("known", "b")))
        self.assertTold(desk.watched(), [(("left",), 3, False), (("heard", "a", "a"), True, True),
                                         (("much", "b"), 1, True), (("known", "b"), 1, False)])
        desk.do(("free", ["heard", "a", "a"]))
        desk.do(("watch", ("heard", "a", "a")))
        desk.do(("hold", ("left",)))
        self.assertTold(desk.watched(), [(("left",), 3, True), (("much", "b"), 1, True), (("known", "b"), 1, False),
                                         (("heard", "a", "a"), True, False)])


class Deeds(Desks):
    """22.2 and 22.3: what is done, and what is refused."""

    def test_come_and_leave(self):
        desk = Desk(Village(["b", "a"], [("b", "a")], [2, 3]))
        self.assertTold(desk.do(("come", "z", "b", 10 ** 15)), [])
        self.assertTold(desk.do(["come", "c", "z", 4]), [])
        self.assertEqual(desk.village(), Village(["b", "a", "z", "c"], [("b", "a"), ("b", "z"), ("z", "c")],
                                                 [2, 3, 10 ** 15, 4]))
        desk.do(("leave", "a"))
        self.assertEqual(desk.village(), Village(["b", "z", "c"], [("b", "z"), ("z", "c")], [2, 10 ** 15, 4]))
        desk.do(("leave", "b"))
        desk.do(("leave", "z"))
        self.assertEqual(desk.village(), Village(["c"], [], [4]))
        self.refused(desk, ("leave", "c"), refusals.NotOutmost, person="c")
        desk.do(("come", "b", "c", 1))
        self.assertEqual(desk.village(), Village(["c", "b"], [("c", "b")], [4, 1]))
        self.assertEqual(desk.count(), 6)

    def test_meet_either_way_round(self):
        desk = Desk(EXAMPLE)
        desk.do(("meet", "c", "b"))
        desk.do(["meet", "c", "d"])
        self.assertTold(desk.held(), [("b", "c"), ("c", "d")])
        self.assertTold(desk.deeds(), [("meet", "c", "b"), ("meet", "c", "d")])

    def test_what_is_told_of_changes(self):
        questions = [("heard", "a", "c"), ("can", "d", "a"), ("much", "b"), ("most", "d"), ("known", "c"), ("left",)]
        desk = desk_of(EXAMPLE, [("watch", question) for question in questions])
        self.assertTold(desk.do(("meet", "c", "b")), [
            (("can", "d", "a"), True, False), (("much", "b"), 1, 2), (("most", "d"), 4, 3), (("known", "c"), 1, 2),
            (("left",), 3, 2)])
        self.assertTold(desk.do(("meet", "a", "b")), [
            (("heard", "a", "c"), False, True), (("much", "b"), 2, 3), (("known", "c"), 2, 3), (("left",), 2, 1)])
        self.assertTold(desk.do(("come", "e", "d", 5)), [(("most", "d"), 3, 8), (("left",), 1, 2)])
        self.assertTold(desk.do(("leave", "e")), [(("most", "d"), 8, 3), (("left",), 2, 1)])
        self.assertTold(desk.do(("free", ("left",))), [])
        self.assertTold(desk.do(("meet", "d", "c")), [(("known", "c"), 3, 4)])

    def test_deeds_are_told_as_tuples(self):
        desk = Desk(EXAMPLE)
        question, deed = ["heard", "a", "b"], ["come", "e", "a", 2]
        passed = [deed, ["watch", question], ("hold", ["left"]), ["free", question], ["meet", "b", "a"]]
        for one in passed[:4]:
            desk.do(one)
        question[0] = "can"
        deed[1] = "f"
        desk.do(["free", ["left"]])
        desk.do(passed[4])
        told = [("come", "e", "a", 2), ("watch", ("heard", "a", "b")), ("hold", ("left",)),
                ("free", ("heard", "a", "b")), ("free", ("left",)), ("meet", "b", "a")]
        self.assertTold(desk.deeds(), told)
        self.assertTold([desk.undo() for _ in told], told[::-1])
        self.assertTold([desk.again() for _ in told], told)

    def test_bad_deed(self):
        desk = desk_of(EXAMPLE, [("watch", ("left",)), ("meet", "a", "b")])
        wrong = helper.any_objects() + ["meet", ("meet", "a"), ("meet", "a", "b", "c"), ("leave",), ("leave", "a", "b"),
                                        ("come", "e", "a"), ("come", "e", "a", 1, 1), ("watch",), ("hold",), ("free",),
                                        ("watch", ("left",), 1), ("hold", "left", "left"), ("left",), ("go", "a"),
                                        ("Meet", "a", "b"), ["meet ", "a", "b"], {"leave": "d"}, (("leave",), "d")]
        for thing in helper.any_objects():
            wrong += [("come", thing, "a", 1), ("come", "e", thing, 1), ("come", "e", "a", thing), ("leave", thing),
                      ("meet", thing, "b"), ("meet", "a", thing), (thing, "a", "b"), (thing, "a"), [thing]]
        for news in (0, -1, True, False, None, "1", [1], (1,)):
            wrong += [("come", "e", "a", news), ["come", "a", "z", news]]
        for name in ("", "A", "1a", "ninesigns", "a b", "a\n", None, 3, ["a"]):
            wrong += [("leave", name), ("meet", "a", name), ("meet", name, "a"), ("come", name, "a", 1),
                      ("come", "a", name, 1)]
        for thing in wrong:
            self.assertRaisesJust(refusals.BadDeed, {"thing": thing}, desk.do, thing)
            self.assertRaisesJust(refusals.BadDeed, {"thing": thing}, desk.would, thing)
        self.assertTold(desk.deeds(), [("watch", ("left",)), ("meet", "a", "b")])

    def test_refused_come_leave_and_meet(self):
        desk = met(EXAMPLE, [("c", "b")])
        self.refused(desk, ("come", "a", "zzz", 1), refusals.TakenName, name="a")
        self.refused(desk, ("come", "e", "e", 1), NoPerson, person="e")
        self.refused(desk, ("come", "e", "f", 1), NoPerson, person="f")
        self.refused(desk, ("leave", "e"), NoPerson, person="e")
        self.refused(desk, ("leave", "b"), refusals.HasMet, person="b")
        self.refused(Desk(EXAMPLE), ("leave", "b"), refusals.NotOutmost, person="b")
        self.refused(met(EXAMPLE, [("a", "b")]), ("leave", "a"), refusals.HasMet, person="a")
        self.refused(desk, ("meet", "e", "f"), NoPerson, person="e")
        self.refused(desk, ("meet", "a", "f"), NoPerson, person="f")
        self.refused(desk, ("meet", "a", "a"), NotFriends, one="a", other="a")
        self.refused(desk, ("meet", "a", "c"), NotFriends, one="a", other="c")
        self.refused(desk, ("meet", "b", "c"), refusals.HaveMet, one="b", other="c")
        self.refused(desk, ["meet", "c", "b"], refusals.HaveMet, one="c", other="b")

    def test_refused_questions(self):
        desk = desk_of(EXAMPLE, [("watch", ("left",)), ("hold", ("much", "a")), ("come", "e", "a", 1), ("leave", "e")])
        for thing in helper.any_objects() + [("much", "e"), ("heard", "a"), ("left", "a"), "left", ("Left",)]:
            for word in ("watch", "hold", "free"):
                self.refused(desk, (word, thing), refusals.BadQuestion, thing=thing)
        for question in (("left",), ["left"]):
            self.refused(desk, ("watch", question), refusals.IsWatched, question=question)
        for question in (("much", "a"), ["much", "a"]):
            self.refused(desk, ["watch", question], refusals.IsWatched, question=question)
            self.refused(desk, ["hold", question], refusals.IsWatched, question=question)
        for question in (("much", "b"), ["heard", "a", "b"]):
            self.refused(desk, ("free", question), refusals.NotWatched, question=question)

    def test_in_use(self):
        for question in (("heard", "d", "a"), ("can", "a", "d"), ("much", "d"), ("most", "d"), ("known", "d")):
            desk = desk_of(EXAMPLE, [("watch", ("left",)), ("watch", ("much", "c")), ("watch", question),
                                     ("hold", ("can", "d", "d"))])
            self.refused(desk, ("leave", "d"), refusals.InUse, question=desk.watched()[2][0])
        desk = desk_of(EXAMPLE, [("hold", ("left",)), ("watch", ("much", "d"))])
        self.refused(desk, ("leave", "d"), refusals.InUse, question=desk.watched()[1][0])
        desk.do(("free", ("much", "d")))
        self.refused(desk, ("leave", "d"), refusals.WouldChange, question=desk.watched()[0][0])
        desk.do(("free", ("left",)))
        self.assertTold(desk.do(("leave", "d")), [])

    def test_in_use_of_people_with_the_names_of_words(self):
        village = Village(["a", "left", "much"], [("a", "left"), ("a", "much")], [1, 1, 1])
        desk = desk_of(village, [("watch", ("left",)), ("watch", ("much", "a"))])
        self.assertTold(desk.do(("leave", "left")), [(("left",), 2, 1)])
        self.assertTold(desk.do(("leave", "much")), [(("left",), 1, 0)])

    def test_would_change(self):
        desk = desk_of(EXAMPLE, [("watch", ("left",)), ("hold", ("can", "a", "d")), ("hold", ("most", "d")),
                                 ("hold", ("heard", "a", "b"))])
        first, second, third = [question for question, _, held in desk.watched() if held]
        self.refused(desk, ("meet", "c", "d"), refusals.WouldChange, question=second)
        self.refused(desk, ("meet", "a", "b"), refusals.WouldChange, question=first)
        self.refused(desk, ("meet", "b", "c"), refusals.WouldChange, question=first)
        self.refused(desk, ("come", "e", "c", 1), refusals.WouldChange, question=second)
        self.assertTold(desk.would(("meet", "a", "b")), [
            (("left",), 3, 2), (("can", "a", "d"), True, False), (("heard", "a", "b"), False, True)])
        desk.do(("free", ("can", "a", "d")))
        self.refused(desk, ("meet", "a", "b"), refusals.WouldChange, question=third)
        self.refused(desk, ("meet", "b", "c"), refusals.WouldChange, question=second)


class Questions(Desks):
    """22.4: questions."""

    def test_all_begins_and_questions(self):
        for village in helper.villages(4) + helper.villages(5)[-25::4] + helper.some_villages(5, 2, 101):
            for start in begins(village):
                desk = met(village, start)
                heard = helper.simulated(village, start)
                best = {(one, other): plain_desk.can_by_orders(village, start, one, other)
                        for one in village.people() for other in village.people()}
                own = dict(zip(village.people(), village.news()))
                for question in all_questions(village):
                    right = plain_desk.answer(village, start, question)
                    if question[0] == "can":
                        right = best[question[1], question[2]]
                    if question[0] == "most":
                        right = sum(own[other] for other in own if best[question[1], other])
                    if question[0] == "known":
                        right = sum(question[1] in lot for lot in heard.values())
                    self.assertTold(desk.answer(question), right)
                    self.assertTold(desk.answer(list(question)), right)

    def test_the_most_is_had_by_one_order(self):
        for village in helper.villages(4) + helper.some_villages(5, 6, 102):
            own = dict(zip(village.people(), village.news()))
            for start in begins(village)[::3]:
                left = [tie for tie in village.ties() if tie not in start]
                had = {person: 0 for person in own}
                for row in itertools.permutations(left):
                    for person, lot in helper.simulated(village, start + list(row)).items():
                        had[person] = max(had[person], sum(own[one] for one in lot))
                desk = met(village, start)
                for person in own:
                    self.assertTold(desk.answer(("most", person)), had[person])

    def test_is_question(self):
        desk = Desk(EXAMPLE)
        for question in all_questions(EXAMPLE):
            self.assertIs(desk.is_question(question), True)
            self.assertIs(desk.is_question(list(question)), True)
            self.assertIs(Desk(Village(["z"], [], [1])).is_question(question), question == ("left",))
        wrong = helper.any_objects() + ["left", "heard", ("heard",), ("heard", "a"), ("heard", "a", "b", "c"),
                                        ("left", "a"), ("much",), ("much", "a", "b"), ("much", "e"), ("can", "a", "e"),
                                        ("can", "e", "a"), {"left": 1}, {"left"}, (("left",),), [["left"]], ("Left",),
                                        ("known ", "a"), ("much", ["a"]), ("much", None), (["much"], "a"), (None, "a")]
        for thing in helper.any_objects():
            wrong += [("much", thing), ("heard", "a", thing), ["can", thing, "a"], (thing,), ("left", thing),
                      (thing, "a")]
        for thing in wrong:
            self.assertIs(desk.is_question(thing), False)
            self.assertRaisesJust(refusals.BadQuestion, {"thing": thing}, desk.answer, thing)

    def test_people_are_those_of_the_village_now(self):
        desk = Desk(EXAMPLE)
        self.assertIs(desk.is_question(("much", "e")), False)
        desk.do(("come", "e", "d", 7))
        self.assertTold(desk.answer(("much", "e")), 7)
        self.assertTold(desk.answer(("most", "a")), 11)
        desk.do(("leave", "e"))
        self.assertIs(desk.is_question(("much", "e")), False)
        desk.undo()
        self.assertIs(desk.is_question(("much", "e")), True)

    def test_kinds(self):
        desk = met(Village(["a", "b"], [("a", "b")], [10 ** 15, 1]), [("b", "a")])
        questions = [("heard", "a", "b"), ("can", "b", "a"), ("much", "a"), ("most", "b"), ("known", "a"), ("left",)]
        self.assertTold([desk.answer(question) for question in questions],
                        [True, True, 10 ** 15 + 1, 10 ** 15 + 1, 2, 0])


class WaysOn(Desks):
    """22.5: just one of a way on and somebody between."""

    def right(self, desk, village, start):
        left = sorted(tie for tie in village.ties() if tie not in start)
        for one in village.people():
            best = desk.best_on(one)
            self.assertEqual(repr(sorted(best)), repr(left))
            heard = helper.simulated(village, start + best)[one]
            for other in village.people():
                can = plain_desk.can_hear(village, start, one, other)
                self.assertEqual(other in heard, can)
                way_on, barred = desk.way_on(one, other), desk.barred_at(one, other)
                self.assertEqual(way_on is not None, can)
                self.assertEqual(barred, self.barred_by_words(village, start, one, other))
                self.assertEqual(barred is None, can)
                if can:
                    self.assertEqual(sorted(way_on), left)
                    self.assertIn(other, helper.simulated(village, start + way_on)[one])

    def barred_by_words(self, village, start, one, other):
        row = helper.way(village, other, one)
        times = {frozenset(meeting): time for time, meeting in enumerate(start)}
        for ahead, person, behind in zip(row, row[1:], row[2:]):
            first, second = times.get(frozenset((ahead, person))), times.get(frozenset((person, behind)))
            if second is not None and (first is None or second < first):
                return person
        return None

    def test_all_begins(self):
        for village in helper.villages(4) + helper.villages(5)[-20::3]:
            for start in begins(village):
                self.right(met(village, start), village, start)

    def test_can_is_so_by_some_order(self):
        for village in helper.villages(4) + helper.some_villages(5, 5, 103):
            for start in begins(village)[::2]:
                for one, other in itertools.product(village.people(), repeat=2):
                    self.assertEqual(plain_desk.can_hear(village, start, one, other),
                                     plain_desk.can_by_orders(village, start, one, other))

    def test_twelve_people(self):
        drawn = random.Random(104)
        for village in [helper.row_village(12), helper.star_village(12)] + helper.some_villages(12, 6, 105, 10 ** 15):
            start = drawn.sample(village.ties(), drawn.randint(0, 11))
            self.right(met(village, start), village, start)

    def test_equal_desks_tell_the_same(self):
        drawn = random.Random(106)
        for village in helper.some_villages(8, 10, 107):
            start = drawn.sample(village.ties(), 3)
            one = met(village, start)
            other = desk_of(village, [["meet", tie[1], tie[0]] for tie in start] + [("come", "new", start[0][0], 1)])
            other.undo()
            self.assertEqual(one, other)
            for person in village.people():
                self.assertTold(one.best_on(person), other.best_on(person))
                for friend in village.people():
                    self.assertTold(one.way_on(person, friend), other.way_on(person, friend))

    def test_no_person(self):
        desk = Desk(EXAMPLE)
        for thing in helper.any_objects() + ["e"]:
            for method in (desk.way_on, desk.barred_at):
                self.assertRaisesJust(NoPerson, {"person": thing}, method, thing, None)
                self.assertRaisesJust(NoPerson, {"person": thing}, method, "a", thing)
            self.assertRaisesJust(NoPerson, {"person": thing}, desk.best_on, thing)

    def test_one_person(self):
        desk = Desk(Village(["a"], [], [1]))
        self.assertTold((desk.way_on("a", "a"), desk.barred_at("a", "a"), desk.best_on("a")), ([], None, []))
        self.assertTold((desk.free_meetings(), desk.answer(("left",)), desk.answer(("known", "a"))), ([], 0, 1))


class Ahead(Desks):
    """22.6: what would be, and free meetings."""

    def test_would_is_what_do_returns(self):
        drawn = random.Random(108)
        for village in helper.villages(4)[2:]:
            questions = drawn.sample(all_questions(village), min(5, len(all_questions(village))))
            for start in begins(village)[::3]:
                desk = desk_of(village, [("watch", question) for question in questions])
                for tie in start:
                    desk.do(("meet",) + tie)
                for one, other in village.ties():
                    if (one, other) not in start:
                        ahead = picture(desk)
                        told = desk.would(("meet", other, one))
                        self.assertEqual(picture(desk), ahead)
                        self.assertTold(desk.copy().do(("meet", other, one)), told)

    def test_free_meetings(self):
        drawn = random.Random(109)
        counts = {}
        for village in helper.villages(4)[2:] + helper.some_villages(7, 30, 110):
            for _ in range(4):
                start = drawn.sample(village.ties(), drawn.randint(0, len(village.ties()) - 1))
                desk = met(village, start)
                for question in drawn.sample(all_questions(village), 3):
                    desk.do((drawn.choice(["watch", "hold", "hold"]), question))
                ahead = picture(desk)
                free = desk.free_meetings()
                self.assertEqual(picture(desk), ahead)
                right = [tie for tie in village.ties() if tie not in start and can_do(desk.copy(), ("meet",) + tie)]
                self.assertTold(free, right)
                counts[len(free)] = True
        self.assertLessEqual({0, 1, 2, 3}, set(counts))

    def test_held_left_lets_none(self):
        self.assertTold(desk_of(EXAMPLE, [("hold", ("left",))]).free_meetings(), [])
        self.assertTold(desk_of(EXAMPLE, [("watch", ("left",))]).free_meetings(), EXAMPLE.ties())


def can_do(desk, deed):
    try:
        desk.do(deed)
    except HeardError:
        return False
    return True


class BackAndOn(Desks):
    """22.7: back and on again."""

    def test_undo_and_again(self):
        deeds = [("come", "e", "d", 3), ("watch", ("left",)), ("meet", "d", "e"), ("hold", ("known", "e")),
                 ("free", ("left",)), ("meet", "a", "b"), ("leave", "f")]
        desk = desk_of(EXAMPLE, deeds[:1] + [("come", "f", "a", 1)] + deeds[1:])
        done = desk.deeds()
        states = [plain_desk.replayed(EXAMPLE, done[:many]) for many in range(len(done) + 1)]
        for _ in range(2):
            for many in reversed(range(len(done))):
                self.assertTold(desk.undo(), done[many])
                self.same(desk, states[many])
                self.assertTold((desk.count(), desk.deeds()), (many, done[:many]))
            self.assertTold(desk.undo(), None)
            for many in range(len(done)):
                self.assertTold(desk.again(), done[many])
                self.same(desk, states[many + 1])
                self.assertTold((desk.count(), desk.deeds()), (many + 1, done[:many + 1]))
            self.assertTold(desk.again(), None)

    def test_a_new_deed_ends_what_can_be_done_again(self):
        desk = met(EXAMPLE, [("a", "b"), ("b", "c"), ("c", "d")])
        desk.undo()
        desk.undo()
        self.assertRaises(HeardError, desk.do, ("meet", "a", "b"))
        desk.would(("meet", "c", "d"))
        self.assertTold(desk.again(), ("meet", "b", "c"))
        desk.undo()
        desk.do(("meet", "c", "d"))
        self.assertTold(desk.again(), None)
        self.assertTold(desk.held(), [("a", "b"), ("c", "d")])

    def test_at(self):
        deeds = [("meet", "a", "b"), ("hold", ("left",)), ("free", ("left",)), ("come", "e", "a", 1),
                 ("meet", "e", "a")]
        desk = desk_of(EXAMPLE, deeds + [("meet", "c", "d")])
        desk.undo()
        for number in range(6):
            other = desk.at(number)
            self.same(other, plain_desk.replayed(EXAMPLE, deeds[:number]))
            self.assertTold((other.count(), other.deeds(), other.again()), (number, deeds[:number], None))
            for deed in reversed(deeds[:number]):
                self.assertTold(other.undo(), deed)
            self.assertEqual(other, Desk(EXAMPLE))
        self.assertTold(desk.again(), ("meet", "c", "d"))
        desk.undo()
        for thing in helper.any_objects() + [6, 7, -1, True, False, None, "1", 10 ** 30]:
            self.assertRaisesJust(refusals.NoCount, {"number": thing}, desk.at, thing)

    def test_copies_go_on_by_themselves(self):
        desk = met(EXAMPLE, [("a", "b"), ("b", "c")])
        desk.undo()
        other = desk.copy()
        self.assertEqual(picture(other), picture(desk))
        self.assertTold(other.again(), ("meet", "b", "c"))
        self.assertTold((other.held(), desk.held()), ([("a", "b"), ("b", "c")], [("a", "b")]))
        desk.do(("come", "e", "a", 1))
        self.assertEqual(other.village(), EXAMPLE)
        self.assertTold((other.undo(), other.undo(), other.undo()), (("meet", "b", "c"), ("meet", "a", "b"), None))
        self.assertTold(desk.deeds(), [("meet", "a", "b"), ("come", "e", "a", 1)])
        earlier = desk.at(1)
        earlier.do(("watch", ("left",)))
        self.assertTold(desk.watched(), [])

    def test_told_lists_are_new_ones(self):
        desk = desk_of(EXAMPLE, [("watch", ("left",)), ("meet", "a", "b")])
        ahead = picture(desk)
        for method in (desk.held, desk.watched, desk.deeds, desk.free_meetings, lambda: desk.best_on("a"),
                       lambda: desk.way_on("d", "a"), lambda: desk.would(("meet", "b", "c")), desk.copy().held):
            told = method()
            kept = repr(told)
            told.append("spoilt")
            del told[0]
            self.assertEqual(repr(method()), kept)
        told = desk.do(("meet", "b", "c"))
        told.clear()
        desk.undo()
        desk.village().people().append("spoilt")
        self.assertEqual(picture(desk)[:6], ahead[:6])

    def test_equal(self):
        desk = desk_of(EXAMPLE, [("meet", "a", "b"), ("watch", ("left",)), ("hold", ("much", "a"))])
        same = desk_of(EXAMPLE, [("hold", ["much", "a"]), ("free", ("much", "a")), ("watch", ["left"]),
                                 ("watch", ("much", "a"))])
        same.do(("meet", "b", "a"))
        self.assertFalse(desk == same)
        same.do(("hold", ("much", "a")))
        self.assertTrue(desk == same)
        for deed in (("meet", "c", "d"), ("free", ("left",)), ("hold", ("left",)), ("watch", ("most", "a")),
                     ("come", "e", "b", 1)):
            other = desk.copy()
            other.do(deed)
            self.assertFalse(other == desk)
            other.undo()
            self.assertTrue(other == desk)
        self.assertFalse(met(EXAMPLE, [("a", "b"), ("c", "d")]) == met(EXAMPLE, [("c", "d"), ("a", "b")]))
        self.assertFalse(desk_of(EXAMPLE, [("watch", ("left",)), ("watch", ("much", "a"))])
                         == desk_of(EXAMPLE, [("watch", ("much", "a")), ("watch", ("left",))]))
        self.assertFalse(Desk(EXAMPLE) == Desk(Village(list("abcd"), EXAMPLE.ties(), [1, 1, 1, 2])))
        for thing in helper.any_objects():
            self.assertIs(desk == thing, False)
            self.assertIs(thing == desk, False)


class Trials(Desks):
    """22.7: trials."""

    def test_what_work_returns(self):
        desk = desk_of(EXAMPLE, [("watch", ("left",)), ("meet", "a", "b"), ("meet", "b", "c")])
        desk.undo()
        ahead = picture(desk)
        handed = []

        def work(one):
            handed.append(one)
            one.again()
            one.do(("meet", "c", "d"))
            one.do(("hold", ("left",)))
            return one.held()

        self.assertTold(desk.trial(work), [("a", "b"), ("b", "c"), ("c", "d")])
        self.assertIs(handed[0], desk)
        self.assertEqual(picture(desk), ahead)
        self.assertIs(desk.trial(lambda one: None), None)
        self.assertIs(desk.trial(lambda one: one), desk)
        thing = [helper.deep("list")]
        self.assertIs(desk.trial(work=lambda one: thing), thing)

    def test_errors_come_out(self):
        desk = met(EXAMPLE, [("a", "b"), ("b", "c")])
        desk.undo()
        ahead = picture(desk)
        for error in (KeyError("a"), HeardError(), KeyboardInterrupt(), StopIteration(), refusals.InUse(("left",))):
            def work(one):
                one.undo()
                one.do(("come", "e", "a", 1))
                raise error
            with self.assertRaises(type(error)) as caught:
                desk.trial(work)
            self.assertIs(caught.exception, error)
            self.assertEqual(picture(desk), ahead)

    def test_refused_within(self):
        desk = Desk(EXAMPLE)
        with self.assertRaises(refusals.HaveMet):
            desk.trial(lambda one: [one.do(("meet", "a", "b")), one.do(("meet", "b", "a"))])
        self.assertEqual(picture(desk), picture(Desk(EXAMPLE)))

    def test_six_deep(self):
        desk = met(helper.row_village(12), [("a", "b")])
        people = helper.row_village(12).people()

        def work(depth):
            def go_on(one):
                ahead = picture(one)
                one.do(("meet", people[depth], people[depth + 1]))
                if depth == 6:
                    return one.held()
                kept = picture(one)
                told = one.trial(work(depth + 1))
                self.assertEqual(picture(one), kept)
                one.undo()
                self.assertEqual(picture(one)[:7], ahead[:7])
                return told
            return go_on

        ahead = picture(desk)
        self.assertEqual(len(desk.trial(work(1))), 7)
        self.assertEqual(picture(desk), ahead)

    def test_what_a_trial_took_away(self):
        desk = met(EXAMPLE, [("a", "b")])
        taken = desk.trial(lambda one: (one.do(("meet", "b", "c")), one.copy())[1])
        self.assertTold(taken.held(), [("a", "b"), ("b", "c")])
        self.assertTold(desk.held(), [("a", "b")])
        self.assertTold(taken.undo(), ("meet", "b", "c"))


class Kept:
    """A desk beside the plain record of its deeds."""

    def __init__(self, village):
        self.village, self.desk, self.done, self.undone = village, Desk(village), [], []

    def copy(self):
        other = Kept(self.village)
        other.desk, other.done, other.undone = self.desk.copy(), list(self.done), list(self.undone)
        return other

    def at(self, number):
        other = Kept(self.village)
        other.desk, other.done = self.desk.at(number), self.done[:number]
        return other

    def state(self):
        return plain_desk.replayed(self.village, self.done)


class LongRows(Desks):
    """22.3, 22.6, 22.7: long rows of drawn deeds, held against a plain replay."""

    def test_drawn_deeds(self):
        self.errors = {}
        for seed in range(40):
            drawn = random.Random(seed)
            village = helper.some_villages(drawn.randint(1, 8), 1, seed)[0]
            kept = Kept(village)
            others = []
            for step in range(110):
                self.step(drawn, kept, others)
            for one in others + [kept]:
                self.check(one)
        self.assertLessEqual({refusals.BadDeed, refusals.TakenName, NoPerson, refusals.HasMet, refusals.NotOutmost,
                              NotFriends, refusals.HaveMet, refusals.BadQuestion, refusals.IsWatched,
                              refusals.NotWatched, refusals.InUse, refusals.WouldChange, None}, set(self.errors))

    def step(self, drawn, kept, others):
        way = drawn.random()
        if way < 0.72:
            self.do(drawn, kept)
        elif way < 0.8:
            self.assertTold(kept.desk.undo(), kept.done[-1] if kept.done else None)
            if kept.done:
                kept.undone.append(kept.done.pop())
        elif way < 0.88:
            self.assertTold(kept.desk.again(), kept.undone[-1] if kept.undone else None)
            if kept.undone:
                kept.done.append(kept.undone.pop())
        elif way < 0.92:
            others.append(kept.copy())
            if len(others) > 3:
                self.check(others.pop(0))
        elif way < 0.95:
            number = drawn.randint(0, len(kept.done))
            other = kept.at(number)
            self.check(other)
            self.do(drawn, other)
        else:
            self.trial(drawn, kept, 1)
        if drawn.random() < 0.3:
            self.check(kept)
        if others and drawn.random() < 0.3:
            self.do(drawn, drawn.choice(others))

    def trial(self, drawn, kept, depth):
        done, undone, ahead = list(kept.done), list(kept.undone), picture(kept.desk)
        failing = drawn.random() < 0.4

        def work(desk):
            self.assertIs(desk, kept.desk)
            for _ in range(drawn.randint(1, 5)):
                if depth < 6 and drawn.random() < 0.3:
                    self.trial(drawn, kept, depth + 1)
                elif drawn.random() < 0.3 and kept.done:
                    self.assertTold(desk.undo(), kept.done[-1])
                    kept.undone.append(kept.done.pop())
                else:
                    self.do(drawn, kept)
            self.check(kept)
            if failing:
                raise KeyError(depth)
            return depth

        if failing:
            with self.assertRaises(KeyError):
                kept.desk.trial(work)
        else:
            self.assertEqual(kept.desk.trial(work), depth)
        kept.done, kept.undone = done, undone
        self.assertEqual(picture(kept.desk), ahead)

    def do(self, drawn, kept):
        state = kept.state()
        if len(kept.done) >= 60:
            return
        deed = drawn_deed(drawn, state)
        refused = plain_desk.refusal(state, deed)
        self.errors[refused[0] if refused else None] = True
        lax = plain_desk.refusal(state, deed, would=True)
        if lax is None:
            right = plain_desk.changes(state, plain_desk.behind(state, deed))
            self.assertTold(kept.desk.would(deed), right)
        else:
            self.assertError(lax, kept.desk.would, deed)
        if refused is None:
            self.assertTold(kept.desk.do(deed), right)
            kept.done.append(tuple(tuple(part) if isinstance(part, list) else part for part in deed))
            kept.undone.clear()
        else:
            self.assertError(refused, kept.desk.do, deed)

    def assertError(self, refused, method, deed):
        try:
            method(deed)
        except HeardError as error:
            self.assertIs(type(error), refused[0])
            self.assertEqual(vars(error), refused[1])
        else:
            self.fail((refused, deed))

    def check(self, kept):
        state = kept.state()
        self.same(kept.desk, state)
        self.assertTold((kept.desk.count(), kept.desk.deeds()), (len(kept.done), kept.done))
        self.assertEqual(kept.desk, desk_of(kept.village, kept.done))
        village, held = state["village"], state["held"]
        people = village.people()
        for question in (("can", people[0], people[-1]), ("most", people[0]), ("known", people[-1]), ("left",)):
            self.assertTold(kept.desk.answer(question), plain_desk.answer(village, held, question))
        free = [tie for tie in village.ties() if plain_desk.refusal(state, ("meet",) + tie) is None]
        self.assertTold(kept.desk.free_meetings(), free)


def drawn_deed(drawn, state):
    """A deed that may be done or may be refused."""
    people = state["village"].people()
    names = people + drawn.sample(NAMES, 2)
    if drawn.random() < 0.15:
        names = people
    kinds = ["come", "leave", "leave", "meet", "meet", "meet", "watch", "hold", "free"]
    kind = drawn.choice(kinds if len(people) < 12 else kinds[1:])
    if drawn.random() < 0.03:
        return drawn.choice([kind, [kind], (kind, 1, 2), [kind, True], None, (kind, "a", "b", "c", "d")])
    if kind == "come":
        deed = (kind, drawn.choice(NAMES), drawn.choice(names), drawn.randint(1, 10 ** drawn.choice([1, 15])))
    elif kind == "leave":
        deed = (kind, drawn.choice(names))
    elif kind == "meet":
        deed = (kind, drawn.choice(names), drawn.choice(names))
        if drawn.random() < 0.7 and state["village"].ties():
            deed = (kind,) + drawn.choice(state["village"].ties())[::drawn.choice([1, -1])]
    else:
        deed = (kind, drawn_question(drawn, state, names, kind))
    return list(deed) if drawn.random() < 0.3 else deed


def drawn_question(drawn, state, names, kind):
    watched = [question for question, _ in state["watched"]]
    word = drawn.choice(["heard", "can", "much", "most", "known", "left"])
    question = (word,) + tuple(drawn.choice(names) for _ in range(plain_desk.COUNTS[word]))
    if watched and drawn.random() < (0.7 if kind == "free" or len(watched) > 3 else 0.2):
        question = drawn.choice(watched)
    return list(question) if drawn.random() < 0.3 else question


class GreatDesks(Desks):
    """The limits of section 22: twelve people, five watched questions, sixty deeds."""

    def test_twelve_people_and_sixty_deeds(self):
        for seed, village in enumerate([helper.row_village(12), helper.star_village(12)]
                                       + helper.some_villages(12, 4, 111, 10 ** 15)):
            drawn = random.Random(seed)
            kept = Kept(village)
            for question in drawn.sample(all_questions(village), 5):
                kept.desk.do(("watch", question))
                kept.done.append(("watch", question))
            while len(kept.done) < 60:
                state = kept.state()
                deed = drawn_deed(drawn, state)
                if deed and deed[0] not in ("watch",) and plain_desk.refusal(state, deed) is None:
                    kept.desk.do(deed)
                    kept.done.append(tuple(tuple(part) if isinstance(part, list) else part for part in deed))
                elif drawn.random() < 0.02:
                    kept.desk.do(("watch", ("left",)) if ("left",) not in dict(map(tuple, state["watched"]))
                                 else ("free", ("left",)))
                    kept.done.append(kept.desk.deeds()[-1])
            for number in range(0, 61, 5):
                self.same(kept.desk.at(number), plain_desk.replayed(village, kept.done[:number]))
            self.same(kept.desk, kept.state())


class Example(Desks):
    """22.8, number by number."""

    def test_example(self):
        desk = Desk(EXAMPLE)
        self.assertTold(desk.do(("meet", "b", "c")), [])
        self.assertTold(desk.answer(("can", "d", "a")), False)
        self.assertTold(desk.barred_at("d", "a"), "b")
        self.assertTold(desk.way_on("d", "a"), None)
        self.assertTold(desk.answer(("can", "a", "d")), False)
        self.assertTold(desk.barred_at("a", "d"), "c")
        self.assertTold(desk.answer(("most", "d")), 3)
        desk.do(("hold", ("can", "a", "c")))
        self.assertTold(desk.free_meetings(), [("a", "b"), ("c", "d")])
        desk.do(("come", "e", "c", 5))
        self.assertTold(desk.answer(("can", "a", "e")), False)
