"""Tables of people whose friends are not known: the village told back."""

from heardsince.checks import is_table_of
from heardsince.clashes import pairs_in_order, table_clash
from heardsince.errors import BadTable
from heardsince.villages import Village, check_people, join_parts


def ties_of_table(people, table):
    """The ties of the village whose table this is, None if there is none."""
    if people_clash(people, table) is not None:
        return None
    return mutual_pairs(people, table)


def people_clash(people, table):
    """None, or the first thing by which this is no table of any village."""
    check_people(people)
    if not is_table_of(people, table):
        raise BadTable(table)
    ties = mutual_pairs(people, table)
    parts = {person: person for person in people}
    for one, other in ties:
        if parts[one] == parts[other]:
            return ("round", one, other)
        join_parts(parts, one, other)
    for one, other in pairs_in_order(people):
        if parts[one] != parts[other]:
            return ("apart", one, other)
    return table_clash(Village(people, ties, [1 for person in people]), table)


def mutual_pairs(people, table):
    """The list of the pairs of those who have heard of one another."""
    return [(one, other) for one, other in pairs_in_order(people) if other in table[one] and one in table[other]]
