"""Questions about things that are handed in: each answers for any object and raises nothing."""

LETTERS = "abcdefghijklmnopqrstuvwxyz"
SIGNS = "abcdefghijklmnopqrstuvwxyz0123456789"
LONGEST_NAME = 8


def is_list(thing):
    """Whether a thing is a list, or a tuple, which means the same."""
    return isinstance(thing, (list, tuple))


def is_integer(thing):
    """Whether a thing is an int that is no bool."""
    return isinstance(thing, int) and not isinstance(thing, bool)


def is_number(thing):
    """Whether a thing is an integer from 0 on."""
    return is_integer(thing) and thing >= 0


def is_name(thing):
    """Whether a thing is one to eight letters and figures, a letter first."""
    if not isinstance(thing, str) or thing == "" or len(thing) > LONGEST_NAME:
        return False
    return thing[0] in LETTERS and all([sign in SIGNS for sign in thing])


def is_one_of(known, thing):
    """Whether a thing is one of the strings that a dict has as its keys."""
    # what is no string may have no hash, so it is kept away from the dict
    return isinstance(thing, str) and thing in known


def is_pair_of(known, thing):
    """Whether a thing is a pair of strings that a dict has as its keys."""
    return is_list(thing) and len(thing) == 2 and all([is_one_of(known, part) for part in thing])


def first_wrong(known, thing):
    """The first index of what is none of a list of strings, or stood before; 0 for no list; None if all is right."""
    if not is_list(thing):
        return 0
    left = {name: True for name in known}
    for index, part in enumerate(thing):
        if not is_one_of(left, part):
            return index
        del left[part]
    return None


def is_some_of(known, thing):
    """Whether a thing is a list of unlike ones of a list of strings."""
    return first_wrong(known, thing) is None


def is_all_of(known, thing):
    """Whether a thing is a list of just all of a list of strings, each once."""
    return is_some_of(known, thing) and len(thing) == len(known)


def is_dict_of(people, thing):
    """Whether a thing is a dict from just all people."""
    return isinstance(thing, dict) and len(thing) == len(people) and all([person in thing for person in people])


def is_numbers_of(people, thing):
    """Whether a thing is a dict from just all people to numbers."""
    return is_dict_of(people, thing) and all([is_number(thing[person]) for person in people])


def is_table_of(people, thing):
    """Whether a thing is a dict from just all people to lists of unlike people, each with the person among them."""
    if not is_dict_of(people, thing):
        return False
    return all([is_some_of(people, thing[person]) and person in thing[person] for person in people])


def is_span(thing):
    """Whether a thing is a pair of numbers, the second one not below the first one."""
    return is_list(thing) and len(thing) == 2 and is_number(thing[0]) and is_number(thing[1]) and thing[0] <= thing[1]
