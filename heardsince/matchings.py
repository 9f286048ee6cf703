"""Unlike days for friends who each have a list of them, or a crowd: friends with fewer days together than they are."""


def matched(wishes):
    """The pair of a dict from days to the friends who are given them, and None; or of None, and a crowd.

    wishes are a dict from friends to the lists of the days that they can be given.
    """
    taken = {}
    for friend in wishes:
        crowd = give_day(wishes, taken, friend)
        if crowd is not None:
            return None, crowd
    return taken, None


def give_day(wishes, taken, friend):
    """Gives a friend a day, others being given other ones where it must be: changes taken. None, or a crowd."""
    came = {}
    near = [friend]
    while len(near) > 0:
        here = near.pop(0)
        for day in wishes[here]:
            if day not in came:
                came[day] = here
                if day not in taken:
                    pass_on(taken, came, friend, day)
                    return None
                near.append(taken[day])
    # all who were asked have no other days but those that all but one of them were given
    return [friend] + [taken[day] for day in came]


def pass_on(taken, came, friend, day):
    """Gives a day to whom it was reached from, that one's day to whom that was reached from, and so on to a friend."""
    had = {holder: held for held, holder in taken.items()}
    here = day
    taken[here] = came[here]
    while taken[here] != friend:
        here = had[taken[here]]
        taken[here] = came[here]


def spared(wishes, taken):
    """The dict of True from those of the taken days that can be left to others, all friends being given other days."""
    found = {}
    many = -1
    while len(found) > many:
        many = len(found)
        for day, friend in taken.items():
            if any([other not in taken or other in found for other in wishes[friend]]):
                found[day] = True
    return found
