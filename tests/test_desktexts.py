"""Points 23.1 to 23.3: a desk's text, written and read."""

import itertools
import random
import re

from heardsince.desks import Desk
from heardsince.desktexts import read_desk, write_desk
from heardsince.errors import BadTies
from heardsince.refusals import BadDesk, BadText
from heardsince.villages import Village
from tests import helper, plain_desk

EXAMPLE_LINES = ["person a 1", "person b 1", "person c 1", "person d 1", "tie a b", "tie b c", "tie c d", "met b c",
                 "hold can a c"]
ORDER = ["person", "tie", "met", "watch"]


def text_of(lines):
    return "".join(line + "\n" for line in lines)


def example_desk():
    desk = Desk(helper.example_village())
    for deed in (("meet", "b", "c"), ("hold", ("can", "a", "c"))):
        desk.do(deed)
    return desk


def text_by_hand(desk):
    """The text of a desk, by what it tells."""
    village = desk.village()
    lines = [f"person {name} {more}" for name, more in zip(village.people(), village.news())]
    lines += [f"tie {one} {other}" for one, other in village.ties()]
    lines += [f"met {one} {other}" for one, other in desk.held()]
    lines += [("hold " if held else "watch ") + " ".join(question) for question, answer, held in desk.watched()]
    return text_of(lines)


def drawn_desk(drawn, most=8):
    """A desk with some deeds done and some taken back."""
    village = helper.some_villages(drawn.randint(1, most), 1, drawn.random(), drawn.choice((1, 9, 10 ** 15)))[0]
    desk = Desk(village)
    for _ in range(drawn.randint(0, 14)):
        people = desk.village().people()
        kind = drawn.choice(list(plain_desk.COUNTS))
        question = (kind,) + tuple(drawn.choices(people, k=plain_desk.COUNTS[kind]))
        deeds = [("watch", question), ("hold", question),
                 ("come", drawn.choice(["left", "n1", "zz"]), drawn.choice(people), drawn.randint(1, 10 ** 15))]
        deed = drawn.choice(deeds + [("meet",) + drawn.choice((tie, tie[::-1])) for tie in desk.village().ties()])
        state = {"village": desk.village(), "held": desk.held(), "watched": [[one, held] for one, _, held in desk.watched()]}
        if plain_desk.refusal(state, deed) is None and len(desk.watched()) < 5:
            desk.do(deed)
    return desk


def bad_line(text):
    """Which line is the first that cannot stand, None if a desk is read."""
    lines = text.split("\n")
    rest = lines.pop()
    for number in range(1, len(lines) + 1):
        if not stands(lines[:number - 1], lines[number - 1]):
            return number
    if rest or not is_joined(lines):
        return len(lines) + 1
    return None


def parts_of(lines, *words):
    return [tuple(line.split(" ")[1:]) for line in lines if line.split(" ")[0] in words]


def is_joined(lines):
    people = [name for name, news in parts_of(lines, "person")]
    return len(people) > 0 and len(parts_of(lines, "tie")) == len(people) - 1


def stands(lines, line):
    """Whether a line can stand behind lines that can."""
    kinds = [ORDER.index(one.split(" ")[0].replace("hold", "watch")) for one in lines]
    word = line.split(" ")[0].replace("hold", "watch")
    people = [name for name, news in parts_of(lines, "person")]
    ties = parts_of(lines, "tie")
    if word not in ORDER or ORDER.index(word) < max(kinds, default=0) or line.startswith("watch") != (word == line[:5] == "watch"):
        return False
    if word == "person":
        name = re.fullmatch("person ([a-z][a-z0-9]{0,7}) [1-9][0-9]{0,15}", line)
        return name is not None and name[1] not in people
    if word == "tie":
        found = re.fullmatch("tie ([^ ]+) ([^ ]+)", line)
        if found is None or len(people) == 0:
            return False
        try:
            Village(people, ties + [found.groups()], [1] * len(people))
        except BadTies as error:
            return error.index == len(ties) + 1
        return True
    if not is_joined(lines):
        return False
    if word == "met":
        return any(line == f"met {one} {other}" for one, other in ties) and line not in lines
    question = tuple(line.split(" ")[1:])
    return plain_desk.is_question(Village(people, ties, [1] * len(people)), question) and question not in parts_of(
        lines, "watch", "hold")


def spoilt_lines(lines, drawn):
    """Lines with something changed."""
    lines = list(lines)
    at = drawn.randrange(len(lines) + 1)
    words = ["person", "tie", "met", "watch", "hold", "left", "can", "a", "b", "z", "", "0", "01", "17", "A", "1", "-1"]
    if at == len(lines) or drawn.random() < 0.2:
        return lines[:at] + [" ".join(drawn.choices(words, k=drawn.randint(0, 4)))] + lines[at:]
    kind = drawn.randrange(6)
    if kind == 0:
        return lines[:at] + lines[at + 1:]
    if kind == 1:
        return lines[:at] + [lines[at]] + lines[at:]
    if kind == 2:
        other = drawn.randrange(len(lines))
        lines[at], lines[other] = lines[other], lines[at]
    elif kind == 3:
        parts = lines[at].split(" ")
        parts[drawn.randrange(len(parts))] = drawn.choice(words + parts)
        lines[at] = " ".join(parts)
    elif kind == 4:
        sign = drawn.randrange(len(lines[at]) + 1)
        lines[at] = lines[at][:sign] + drawn.choice(" 0a\t") + lines[at][sign:]
    else:
        lines[at] = drawn.choice((lines[at] + " ", " " + lines[at], lines[at].upper(), lines[at][:-1]))
    return lines


class Texts(helper.Told):

    def refused(self, text, line):
        with self.assertRaises(BadText) as caught:
            read_desk(text)
        self.assertTold(vars(caught.exception), {"line": line})

    def right_ones(self, desk):
        text = text_by_hand(desk)
        self.assertTold(write_desk(desk), text)
        told = read_desk(text)
        self.assertIs(type(told), Desk)
        self.assertEqual(told, desk)
        self.assertTold((told.held(), told.watched()), (desk.held(), desk.watched()))
        self.assertEqual(told.village(), desk.village())
        # no deed is done
        self.assertTold((told.deeds(), told.count(), told.undo(), told.again()), ([], 0, None, None))
        self.assertTold(write_desk(told), text)
        return told

    def test_drawn_desks(self):
        drawn = random.Random(2301)
        seen = set()
        for _ in range(150):
            desk = drawn_desk(drawn)
            self.right_ones(desk)
            seen.update(held for question, answer, held in desk.watched())
            seen.update(question[0] for question, answer, held in desk.watched())
        self.assertEqual(seen, {True, False, "heard", "can", "much", "most", "known", "left"})

    def test_twelve_people(self):
        drawn = random.Random(2302)
        for village in [helper.row_village(12), helper.star_village(12)] + helper.some_villages(12, 3, 2303, 10 ** 15):
            desk = Desk(village)
            for tie in drawn.sample(village.ties(), 11):
                desk.do(("meet",) + tie)
            desk.do(("watch", ("left",)))
            for question in (("can", "a", "l"), ("most", "b"), ("known", "c"), ("heard", "d", "e")):
                desk.do((drawn.choice(("watch", "watch", "hold")), question))
            # somebody new at "a" may change what "b" can hear
            desk.do(("free", ("most", "b")))
            told = self.right_ones(desk)
            # what is read goes on
            self.assertTold(told.do(("come", "new", "a", 5)), desk.do(("come", "new", "a", 5)))
            self.assertEqual(told, desk)
            self.right_ones(desk)

    def test_desks_of_deeds_taken_back(self):
        desk = example_desk()
        desk.do(("meet", "a", "b"))
        desk.undo()
        self.assertTold(write_desk(desk), text_of(EXAMPLE_LINES))
        self.assertTold(write_desk(desk.at(1)), text_of(EXAMPLE_LINES[:-1]))
        ahead = repr((desk.deeds(), desk.held(), desk.again()))
        self.assertEqual(ahead, repr(([("meet", "b", "c"), ("hold", ("can", "a", "c"))], [("b", "c")], ("meet", "a", "b"))))

    def test_people_with_the_names_of_words(self):
        village = Village(["person", "tie", "met", "left", "hold"],
                          [("person", "tie"), ("met", "tie"), ("left", "hold"), ("tie", "hold")], [1, 2, 3, 4, 5])
        desk = Desk(village)
        for deed in (("meet", "tie", "met"), ("watch", ("known", "left")), ("hold", ("heard", "met", "hold")), ("watch", ("left",))):
            desk.do(deed)
        self.right_ones(desk)

    def test_one_person(self):
        desk = Desk(Village(["a"], [], [9999999999999999]))
        self.assertTold(write_desk(desk), "person a 9999999999999999\n")
        self.right_ones(desk)
        desk.do(("hold", ("left",)))
        self.right_ones(desk)

    def test_spoilt_texts(self):
        drawn = random.Random(2304)
        found = set()
        for _ in range(2500):
            lines = drawn.choice((EXAMPLE_LINES, text_by_hand(drawn_desk(drawn, 4)).split("\n")[:-1]))
            for _ in range(drawn.choice((1, 1, 2))):
                lines = spoilt_lines(lines, drawn)
            text = text_of(lines)
            if drawn.random() < 0.1:
                text = text[:-1]
            line = bad_line(text)
            found.add(line is None)
            if line is None:
                self.assertTold(write_desk(read_desk(text)), text)
            else:
                self.refused(text, line)
        self.assertEqual(found, {True, False})

    def test_all_rows_of_some_lines(self):
        lines = ["person a 1", "person b 2", "tie b a", "met b a", "hold left"]
        for many in range(6):
            for row in itertools.permutations(lines, many):
                line = bad_line(text_of(row))
                if line is None:
                    self.assertTold(write_desk(read_desk(text_of(row))), text_of(row))
                else:
                    self.refused(text_of(row), line)

    def test_each_wrong_line(self):
        for at, line in ((0, "person A 1"), (1, "person a 1"), (1, "person b 0"), (1, "person b 01"), (1, "person b +1"),
                         (1, "person b 1_0"), (1, "person b -1"), (1, "person b 1.0"), (1, "person b"), (1, "person b 1 1"),
                         (1, "person  b 1"), (1, "person b  1"), (1, " person b 1"), (1, "person b 1 "), (1, "person b one"),
                         (1, "person b 12345678901234567"), (1, "person ninesigns 1"), (1, "Person b 1"), (1, "people b 1"),
                         (1, ""), (1, " "), (1, "person"), (0, "tie a b"), (0, "met a b"), (0, "hold left"), (1, "left"),
                         (2, "met a b"), (2, "hold left"), (4, "tie a a"), (4, "tie a e"), (4, "tie a"), (4, "tie a b c"),
                         (5, "tie a b"), (5, "tie b a"), (6, "tie a c"), (5, "person e 1"), (6, "met b c"), (6, "watch left"),
                         (7, "tie a d"), (7, "person e 1"), (7, "met c b"), (7, "met a c"), (7, "met a"), (7, "met a b c"),
                         (7, "met  a b"), (8, "met b c"), (8, "met c b"), (8, "tie a d"), (8, "person e 1"), (8, "watch"),
                         (8, "watch left a"), (8, "watch can a"), (8, "watch can a e"), (8, "hold can a c "), (8, "hold  left"),
                         (8, "watch gone"), (8, "free left"), (9, "hold can a c"), (9, "watch can a c"), (9, "met a b"),
                         (9, "tie a d"), (9, "person e 1"), (9, "left")):
            lines = EXAMPLE_LINES[:at] + [line] + EXAMPLE_LINES[at + 1:]
            self.refused(text_of(lines), at + 1)
            # what stands behind does not matter
            self.refused(text_of(lines[:at + 1]), at + 1)
            self.refused(text_of(lines[:at + 1]) + "wrong", at + 1)
            if line != "":
                self.refused(text_of(lines[:at + 1])[:-1], at + 1)

    def test_kinds_of_lines_in_order(self):
        lines = {"person": "person e 1", "tie": "tie d a", "met": "met a b", "watch": "watch left", "hold": "hold most a"}
        for word, ahead in lines.items():
            if word in ("met", "watch", "hold"):
                text = text_of(EXAMPLE_LINES[:8] + [ahead])
                for other, line in lines.items():
                    if other in ("person", "tie") or (word, other) in (("watch", "met"), ("hold", "met")):
                        self.refused(text + line + "\n", 10)
                    elif other != word:
                        self.assertTold(write_desk(read_desk(text + line + "\n")), text + line + "\n")

    def test_sixteen_figures_at_most(self):
        for news in ("1", "9" * 16, "1" + "0" * 15):
            self.assertTold(read_desk(f"person a {news}\n").village().news(), [int(news)])
        for news in ("1" * 17, "0" + "1" * 15, "0", "", "1" * 5000, "\u0661", "1\u00b2"):
            self.refused(f"person a {news}\n", 1)

    def test_texts_that_end_too_early(self):
        self.refused("", 1)
        self.refused("\n", 1)
        for many in range(1, 7):
            text = text_of(EXAMPLE_LINES[:many])
            if many > 1:
                self.refused(text, many + 1)
            self.refused(text[:-1], many)
        for many in (7, 8, 9):
            text = text_of(EXAMPLE_LINES[:many])
            self.assertTold(write_desk(read_desk(text)), text)
            self.refused(text[:-1], many)
            self.refused(text + "\n", many + 1)
            self.refused(text + " ", many + 1)
        self.refused("person a 1", 1)
        self.assertTold(read_desk("person a 1\n").held(), [])

    def test_other_ends_of_lines_are_none(self):
        text = text_of(EXAMPLE_LINES)
        for sign in ("\r\n", "\r", "\v", "\f", "\u2028", "\x1c", "\x85"):
            self.refused(text.replace("\n", sign), 1)
            self.refused(text.replace("b c\n", "b c" + sign, 1), 6)

    def test_no_string_and_no_desk(self):
        for thing in helper.any_objects():
            if not isinstance(thing, str):
                self.refused(thing, 0)
            if not isinstance(thing, Desk):
                self.assertRaisesJust(BadDesk, {"thing": thing}, write_desk, thing)
        for thing in ("A", "ab cd", "\u00e9"):
            self.refused(thing, 1)

    def test_example(self):
        desk = example_desk()
        self.assertTold(write_desk(desk), text_of(EXAMPLE_LINES))
        self.right_ones(desk)
        self.refused(text_of(EXAMPLE_LINES).replace("met b c", "met c b"), 8)
        self.refused(text_of(EXAMPLE_LINES).replace("tie b c\n", ""), 7)
