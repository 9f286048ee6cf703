"""Points 1.2 and 1.3 over the whole program: what one part tells is told back by the others."""

import fractions
import math

from heardsince import (allhearers, begunledgers, calendarcounts, calendars, callers, callerwishes, cancelled, chances,
                        chancespreads, clashes, cuts, days, desktexts, fewsayings, fitting, forgetful, forgotten, giftbreaks,
                        gifts, joinings, lacking, lastmeetings, ledgerbreaks, ledgers, memorywishes, observers, peopletables,
                        rounds, sayings, seatings, sides, spans, tables, tellings, threads, timetables, views)
from heardsince.desks import Desk
from heardsince.villages import Village
from tests import helper
from tests.plain_memory import everybodys


def cases(seed):
    """Villages of up to sixty people with drawn slates."""
    villages = helper.small_villages(seed) + helper.some_villages(12, 8, seed, 50)
    for place, village in enumerate(villages + helper.great_villages(seed)):
        yield village, helper.drawn_slates(village, seed + place)


class ThereAndBack(helper.Told):
    """1.2: from what was heard back to when people met."""

    def test_slates_told_back(self):
        for village, slates in cases(1):
            calendar = calendars.calendar_of(village, slates)
            for told in (
                    calendars.slates_of(village, calendar),
                    clashes.slates_of_table(village, tables.table(village, slates)),
                    ledgerbreaks.slates_of_ledger(village, ledgers.ledger(village, slates)),
                    ledgerbreaks.slates_of_fame(village, ledgers.fame(village, slates)),
                    begunledgers.begun_of_ledger(village, begunledgers.begun_ledger(village, slates)),
                    giftbreaks.slates_of_gifts(village, gifts.gifts(village, slates)),
                    giftbreaks.slates_of_talks(village, gifts.talks(village, slates)),
                    tables.slates_at(village, tables.slates_number(village, slates)),
                    tables.turned(village, tables.turned(village, slates)),
                    seatings.slates_seated(village, threads.round_of(village, slates)),
                    sayings.slates_fit(village, fewsayings.fewest_sayings(village, slates)),
                    days.slates_of_plan(village, days.first_days(village, slates)),
                    calendars.slates_of(village, callerwishes.wished_calendar(
                        village, lambda person, met, heard: slates[person][len(met)]))):
                self.assertTold(told, slates)
            for one, other in village.ties()[::11]:
                part = {person: number for person, number in ledgers.ledger(village, slates).items()
                        if person not in (one, other)}
                self.assertTold(sides.told_but_two(village, part, one, other), slates)
                numbers = ledgers.ledger(village, slates)
                self.assertTold(sides.door_fault(village, numbers, one, other), None)
                missing = numbers.pop(one)
                self.assertTold(lacking.missing_number(village, numbers), missing)
                both = joinings.parted(village, one, other) + joinings.porches_of(village, slates, one, other)
                self.assertEqual(joinings.joined_slates(*both), slates)
                self.assertEqual(ledgers.ledger(joinings.joined(*both), joinings.joined_slates(*both)),
                                 ledgers.ledger(village, slates))

    def test_who_has_heard_of_whom(self):
        for village, slates in cases(2):
            people = village.people()
            table = tables.table(village, slates)
            calendar = calendars.calendar_of(village, slates)
            all_of_it = everybodys(village, 100)
            for told in (calendars.heard_ahead(village, calendar, len(calendar)), rounds.table_behind(village, slates, 1),
                         forgetful.table_with(village, slates, all_of_it),
                         callers.kept_table(village, calendar, lambda teller, listener, heard: heard)):
                self.assertTold(told, table)
            for told in (cancelled.ledger_without(village, slates, []), rounds.ledger_behind(village, slates, 1),
                         forgetful.ledger_with(village, slates, all_of_it)):
                self.assertTold(told, ledgers.ledger(village, slates))
            self.assertTold(peopletables.ties_of_table(people, table) is None, False)
            for one in people[::1 + len(people) // 4]:
                for other in people[::1 + len(people) // 6]:
                    heard = other in table[one]
                    self.assertIs(calendars.has_heard(village, slates, one, other), heard)
                    self.assertIs(cancelled.heard_without(village, slates, (), one, other), heard)
                    self.assertIs(forgetful.heard_with(village, slates, all_of_it, one, other), heard)
                    self.assertIs(callers.silent_heard(village, slates, [], one, other), heard)
                    self.assertIs(forgetful.least_memory(village, slates, one, other) is not None, heard)
                    self.assertIs(rounds.heard_in(village, slates, one, other) <= 1, heard)
                    self.assertIs(sayings.fits(village, slates, [(one, other, heard)]), True)
                    self.assertTold(observers.known_chance(village, slates, people, one, other), (int(heard), 1))

    def test_gifts_views_and_porches(self):
        for village, slates in cases(3):
            given = gifts.gifts(village, slates)
            for one, other in village.ties()[::7]:
                told = tellings.told_at(village, slates, one, other)
                self.assertTold(cancelled.carried(village, slates, one, other)[0], told)
                self.assertTold(dict(views.view(village, slates, other))[one], told)
                part, entry = joinings.parted(village, one, other)[0], joinings.porches_of(village, slates, one, other)[0]
                self.assertTold(joinings.porch_people(part, entry), told)
                self.assertTold(joinings.porch_gift(part, entry), given[one, other])
                self.assertTold(joinings.gainers(part, entry), cancelled.carried(village, slates, other, one)[1])
                numbers = ledgers.ledger(village, slates)
                side = {person: numbers[person] for person in village.behind(one, other)}
                self.assertTold(sides.side_told(village, one, other, side)[1:], (given[other, one], given[one, other]))

    def test_the_fewest_who_know_all(self):
        for village, slates in cases(4):
            lot = observers.fewest_observers(village, slates)
            self.assertTold(observers.count_alike(village, slates, lot), 1)
            if len(lot) > 0:
                self.assertGreater(observers.count_alike(village, slates, lot[1:]), 1)
            hearers = observers.fewest_hearers(village, slates)
            heard = {other for person in hearers for other in calendars.heard_of(village, slates, person)}
            self.assertEqual(heard, set(village.people()))

    def test_cuts_and_cancelled_meetings(self):
        for village, slates in cases(5):
            people = village.people()
            if len(people) > 1:
                hearers, tellers = people[::2], people[1::2]
                cut = cuts.fewest_cut(village, slates, hearers, tellers, [])
                self.assertFalse(any(cancelled.heard_without(village, slates, cut, one, other)
                                     for one in hearers[:9] for other in tellers[:9]))
                for one, other in village.ties()[::13]:
                    last = lastmeetings.put_last(village, slates, one, other)
                    won, lost = lastmeetings.changed_last(village, slates, one, other)
                    ahead, behind = tables.table(village, slates), tables.table(village, last)
                    self.assertEqual(sum(map(len, behind.values())) - sum(map(len, ahead.values())), len(won) - len(lost))

    def test_desks_and_texts(self):
        for village, slates in cases(6):
            if len(village.people()) <= 12:
                desk = Desk(village)
                for one, other in calendars.calendar_of(village, slates):
                    desk.do(("meet", other, one))
                for person in village.people()[:5]:
                    desk.do(("watch", ("much", person)))
                numbers, fame = ledgers.ledger(village, slates), ledgers.fame(village, slates)
                for other in (desk, desktexts.read_desk(desktexts.write_desk(desk))):
                    self.assertEqual(other, desk)
                    for person in village.people():
                        for question in ("much", "most"):
                            self.assertTold(other.answer((question, person)), numbers[person])
                        self.assertTold(other.answer(("known", person)), fame[person])
                    self.assertTold(other.answer(("left",)), 0)

    def test_dates_and_timetables(self):
        for village, slates in cases(7):
            plan = days.first_days(village, slates)
            self.assertIs(spans.goes_with(village, plan, slates), True)
            week = max(plan.values(), default=0) + 1
            self.assertTold(timetables.slates_in(village, week, plan), slates)
            for one in village.people()[::17]:
                for other in village.people()[::13]:
                    on = [plan.get(door, plan.get(door[::-1])) for door in helper.doors(village.way(other, one))] or [0]
                    falls = rounds.falls(village, slates, one, other)
                    self.assertTold(timetables.delay(village, week, plan, one, other), on[-1] - on[0] + week * falls)
                    self.assertIs(falls == 0, calendars.has_heard(village, slates, one, other))


class HowMany(helper.Told):
    """1.3: how many orders there are, and how likely each is, told in several ways."""

    def test_counts_of_small_villages(self):
        for village in helper.small_villages(8):
            every = helper.all_slates(village)
            many = [calendarcounts.count_calendars(village, slates) for slates in every]
            self.assertEqual(sum(many), math.factorial(len(village.ties())))
            for person in village.people():
                hearing = [person in allhearers.hear_all(village, slates) for slates in every]
                self.assertEqual(allhearers.count_hearing(village, "slates", person), sum(hearing))
                self.assertEqual(allhearers.count_hearing(village, "calendars", person),
                                 sum(number for number, so in zip(many, hearing) if so))

    def test_chances_by_slates(self):
        for village, slates in cases(9):
            people = village.people()
            whole = tables.count_slates(village)
            means = chances.mean_ledger(village, "slates")
            for person in people[::29]:
                some = calendars.heard_of(village, slates, person)
                part = fractions.Fraction(tables.slates_hearing(village, person, some), whole)
                self.assertTold(chancespreads.chance_just(village, "slates", person, some), (part.numerator, part.denominator))
                for other in people[::7]:
                    one = chances.chance(village, "slates", person, [other])
                    self.assertTold(fitting.chance_fit(village, [], person, other), one)
                    self.assertTold(forgotten.chance_with(village, everybodys(village, 100), person, other), one)
                    self.assertTold(observers.known_chance(village, slates, [], person, other), one)
            small = Village(people, village.ties(), [1] * len(people))
            for person in people[::31]:
                counts = tellings.number_counts(small, person)
                spread = chancespreads.spread(village, "slates", person)
                self.assertEqual({many: fractions.Fraction(*part) for many, part in spread.items()},
                                 {many: fractions.Fraction(number, whole) for many, number in counts.items()})
            if len(people) < 13:
                for person in people:
                    counts = tellings.number_counts(village, person)
                    mean = fractions.Fraction(sum(number * many for number, many in counts.items()), whole)
                    self.assertTold(means[person], (mean.numerator, mean.denominator))

    def test_wishes_and_memories(self):
        for village, slates in cases(10):
            people = village.people()
            heard = [(one, other) for one in people[::9] for other in calendars.heard_of(village, slates, one)][:40]
            memory = forgetful.memory_for(village, slates, heard)
            self.assertTrue(all(forgetful.heard_with(village, slates, memory, one, other) for one, other in heard))
            told = memorywishes.slates_for_wishes(village, everybodys(village, 100), heard)
            self.assertTrue(all(calendars.has_heard(village, told, one, other) for one, other in heard))
            fit = sayings.slates_fit(village, [(one, other, True) for one, other in heard])
            self.assertTrue(all(calendars.has_heard(village, fit, one, other) for one, other in heard))
