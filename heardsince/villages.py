"""Villages: people, who is whose friend, and how many news are whose own."""

from heardsince.checks import is_integer, is_list, is_name, is_pair_of
from heardsince.errors import BadNews, BadPeople, BadTies, BadVillage, NoPerson, NotFriends


class Village:
    """People, the ties between them, each two joined by just one way, and their own news."""

    def __init__(self, people, ties, news):
        check_people(people)
        check_ties(people, ties)
        check_news(people, news)
        self._people = list(people)
        self._ties = [(tie[0], tie[1]) for tie in ties]
        self._news = list(news)
        self._friends = friends_by_ties(self._people, self._ties)

    def __eq__(self, other):
        return (isinstance(other, Village) and self._people == other._people
                and self._ties == other._ties and self._news == other._news)

    def people(self):
        """The list of the people: the village's order."""
        return list(self._people)

    def ties(self):
        """The list of the ties, each one way round as it was passed."""
        return list(self._ties)

    def news(self):
        """The list of how many news are each person's own, in the village's order."""
        return list(self._news)

    def friends(self, person):
        """The list of a person's friends, in the village's order."""
        check_person(self, person)
        return list(self._friends[person])

    def way(self, one, other):
        """The list of the people on the way from one to other, both among them."""
        check_person(self, one)
        check_person(self, other)
        inward = inward_from(self, other)
        way = [one]
        while inward[way[-1]] is not None:
            way.append(inward[way[-1]])
        return way

    def behind(self, one, other):
        """The list of the people whom one reaches from one only by way of other, in the village's order."""
        check_friends(self, one, other)
        inward = inward_from(self, one)
        found = {other: True}
        # inward has near ones first, so a person's friend further in was looked at ahead of them
        for person in inward:
            if inward[person] in found:
                found[person] = True
        return [person for person in self._people if person in found]


def check_village(village):
    """Raises BadVillage for what is no village."""
    if not isinstance(village, Village):
        raise BadVillage(village)


def check_person(village, person):
    """Raises NoPerson for what is none of a village's people."""
    if person not in village.people():
        raise NoPerson(person)


def check_two(village, one, other):
    """Raises NoPerson of one, of other."""
    check_person(village, one)
    check_person(village, other)


def check_friends(village, one, other):
    """Raises NoPerson of one, of other, then NotFriends."""
    check_two(village, one, other)
    if other not in village.friends(one):
        raise NotFriends(one, other)


def check_people(people):
    """Raises BadPeople for what is no list of one or more unlike names."""
    index = first_bad_name(people)
    if index is not None:
        raise BadPeople(index)


def first_bad_name(people):
    """The index that BadPeople tells, None if the people are right."""
    if not is_list(people) or len(people) == 0:
        return 0
    stood = {}
    for index, name in enumerate(people):
        if not is_name(name) or name in stood:
            return index
        stood[name] = True
    return None


def check_ties(people, ties):
    """Raises BadTies for what does not join the people by just one way each."""
    index = first_bad_tie(people, ties)
    if index is not None:
        raise BadTies(index)


def first_bad_tie(people, ties):
    """The index that BadTies tells, None if the ties are right."""
    if not is_list(ties):
        return 0
    parts = {person: person for person in people}
    for index, tie in enumerate(ties):
        # one and the same part means: a ring, the same tie, or one person twice
        if not is_pair_of(parts, tie) or parts[tie[0]] == parts[tie[1]]:
            return index
        join_parts(parts, tie[0], tie[1])
    if len(ties) < len(people) - 1:
        return len(ties)
    return None


def join_parts(parts, one, other):
    """Gives all who are in other's part the part of one; changes the dict parts."""
    kept = parts[one]
    gone = parts[other]
    for person in list(parts):
        if parts[person] == gone:
            parts[person] = kept


def check_news(people, news):
    """Raises BadNews for what is no list of one integer from 1 on for each of the people."""
    index = first_bad_amount(len(people), news, 1)
    if index is not None:
        raise BadNews(index)


def first_bad_amount(many, amounts, least):
    """The first index at which a thing is no list of so many integers from the least on, None if it is one."""
    if not is_list(amounts):
        return 0
    for index, amount in enumerate(amounts):
        if index >= many or not is_integer(amount) or amount < least:
            return index
    if len(amounts) < many:
        return len(amounts)
    return None


def friends_by_ties(people, ties):
    """The dict from people to the lists of their friends, in the village's order."""
    tied = {person: {} for person in people}
    for one, other in ties:
        tied[one][other] = True
        tied[other][one] = True
    return {person: [friend for friend in people if friend in tied[person]] for person in people}


def inward_from(village, middle):
    """The dict from all people to their friend on the way to middle, None for middle itself; near ones first."""
    return toward_from({person: village.friends(person) for person in village.people()}, middle)


def toward_from(beside, middle):
    """The dict from all that are joined to middle to the next one on the way there, None for middle; near ones first.

    beside has those next to each, and no rings.
    """
    toward = {middle: None}
    near = [middle]
    while len(near) > 0:
        further = []
        for here in near:
            for one in beside[here]:
                if one not in toward:
                    toward[one] = here
                    further.append(one)
        near = further
    return toward


def doors_inward(inward):
    """The dict from all people to how many doors they are from the middle; inward as inward_from tells it."""
    doors = {}
    for person in inward:
        # near ones stand first
        doors[person] = 0 if inward[person] is None else doors[inward[person]] + 1
    return doors


def own_news(village):
    """The dict from people to how many news are their own."""
    return dict(zip(village.people(), village.news()))
