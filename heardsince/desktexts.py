"""Desks written as texts, and read again."""

from heardsince.checks import is_name, is_pair_of
from heardsince.desks import Desk, desk_in, is_question_of
from heardsince.refusals import BadDesk, BadText
from heardsince.villages import Village, join_parts

FIGURES = "0123456789"
MOST_FIGURES = 16


class Draft:
    """What was read so far of a desk's text."""

    def __init__(self):
        self.names = []
        self.amounts = []
        self.pairs = []
        # by which people are joined if the same stands for them
        self.parts = {}
        self.meetings = []
        self.questions = []
        # the place in KINDS of the last line's word
        self.kind = 0


def write_desk(desk):
    """The text of a desk."""
    if not isinstance(desk, Desk):
        raise BadDesk(desk)
    village = desk.village()
    lines = [["person", name, str(news)] for name, news in zip(village.people(), village.news())]
    lines = lines + [["tie", one, other] for one, other in village.ties()]
    lines = lines + [["met", one, other] for one, other in desk.held()]
    lines = lines + [["hold" if is_held else "watch"] + list(question) for question, answer, is_held in desk.watched()]
    return "".join([" ".join(words) + "\n" for words in lines])


def read_desk(text):
    """A desk with just what a text has, no deed done."""
    if not isinstance(text, str):
        raise BadText(0)
    lines = text.split("\n")
    draft = Draft()
    # behind the last line feed stands nothing
    for index, line in enumerate(lines[:-1]):
        if not can_stand(draft, line.split(" ")):
            raise BadText(index + 1)
    if lines[-1] != "" or not are_joined(draft):
        raise BadText(len(lines))
    return desk_in((village_of(draft), draft.meetings, draft.questions))


def can_stand(draft, words):
    """Whether a line can stand behind what was read; if so it is put into the draft."""
    if words[0] not in KINDS or KINDS[words[0]] < draft.kind:
        return False
    draft.kind = KINDS[words[0]]
    reader = READERS[words[0]]
    return reader(draft, words)


def read_person(draft, words):
    """Whether a line tells somebody new; if so it is put into the draft."""
    if len(words) != 3 or not is_name(words[1]) or words[1] in draft.names or not is_amount(words[2]):
        return False
    draft.names.append(words[1])
    draft.amounts.append(int(words[2]))
    draft.parts[words[1]] = words[1]
    return True


def read_tie(draft, words):
    """Whether a line tells a tie that closes no ring; if so it is put into the draft."""
    if not is_pair_of(draft.parts, words[1:]) or draft.parts[words[1]] == draft.parts[words[2]]:
        return False
    draft.pairs.append((words[1], words[2]))
    join_parts(draft.parts, words[1], words[2])
    return True


def read_met(draft, words):
    """Whether a line tells a meeting that was not held; if so it is put into the draft."""
    meeting = tuple(words[1:])
    if not are_joined(draft) or meeting not in draft.pairs or meeting in draft.meetings:
        return False
    draft.meetings.append(meeting)
    return True


def read_question(draft, words):
    """Whether a line tells a question that was not told; if so it is put into the draft."""
    question = tuple(words[1:])
    if not are_joined(draft) or not is_question_of(village_of(draft), question):
        return False
    if question in [one for one, is_held in draft.questions]:
        return False
    draft.questions.append((question, words[0] == "hold"))
    return True


# in which order lines stand, by their words
KINDS = {"person": 0, "tie": 1, "met": 2, "watch": 3, "hold": 3}
READERS = {"person": read_person, "tie": read_tie, "met": read_met, "watch": read_question, "hold": read_question}


def is_amount(word):
    """Whether a word is an integer from 1 on as Python writes it, of at most sixteen figures."""
    if word == "" or len(word) > MOST_FIGURES or word[0] == "0":
        return False
    return all([sign in FIGURES for sign in word])


def are_joined(draft):
    """Whether the ties read so far join all people, one or more."""
    # none of them closes a ring
    return len(draft.pairs) == len(draft.names) - 1


def village_of(draft):
    """The village that was read."""
    return Village(draft.names, draft.pairs, draft.amounts)
