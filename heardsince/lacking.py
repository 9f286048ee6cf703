"""Ledgers in which numbers lack, or of which one is wrong."""

from heardsince.calendars import heard_from
from heardsince.checks import is_number, is_one_of
from heardsince.errors import BadPart
from heardsince.inboxes import all_in_box, sure_by_all
from heardsince.ledgerbreaks import check_ledger, slates_and_break
from heardsince.villages import check_village, own_news


def missing_number(village, part):
    """The number of the one who lacks such that there are slates with this ledger, None if there is none."""
    return number_and_break(village, part)[0]


def part_break(village, part):
    """None, or the triple (person, front, pairs) of the first person who does not fit, seen from the one who lacks."""
    return number_and_break(village, part)[1]


def suspects(village, ledger):
    """The list of the pairs (person, number): who can be the one who told a wrong number, and the right one."""
    check_ledger(village, ledger)
    found = []
    for person in village.people():
        number = missing_number(village, {one: ledger[one] for one in ledger if one != person})
        if number is not None and number != ledger[person]:
            found.append((person, number))
    return found


def slates_by_part(village, part):
    """The list of all slates whose ledgers have these numbers, as slates compare."""
    check_part(village, part)
    every = sum(village.news())
    return all_in_box(village, {person: (part.get(person, 0), part.get(person, every)) for person in village.people()})


def sure_by_part(village, part):
    """The list of the triples (person, one, other): who meets whom ahead of whom by all slates with these numbers."""
    return sure_by_all(village, slates_by_part(village, part))


def check_part(village, part):
    """Raises BadVillage, BadPart."""
    check_village(village)
    if not is_part(village.people(), part):
        raise BadPart(part)


def is_part(people, thing):
    """Whether a thing is a dict from some of the people, perhaps none, not all, to numbers."""
    if not isinstance(thing, dict) or len(thing) >= len(people):
        return False
    return all([is_one_of(people, person) and is_number(thing[person]) for person in thing])


def number_and_break(village, part):
    """The number of the one who lacks and None, or None and a break."""
    check_part(village, part)
    lacking = [person for person in village.people() if person not in part]
    if len(lacking) != 1:
        raise BadPart(part)
    news = own_news(village)
    slates, broken = slates_and_break(village, lacking[0], part, news, False)
    if slates is None:
        return None, broken
    return sum([news[person] for person in heard_from(slates, lacking[0])]), None
