"""How much can go through a net from a start to a goal, and where it is stopped.

A net is a dict from places to dicts from the next places to how much room there is, integers. It has no rings.
"""


def filled(net, start, goal):
    """The net of how much goes from each place to each next one, if as much as can be goes from start to goal."""
    left = {here: dict(net[here]) for here in net}
    for here in net:
        for there in net[here]:
            # what goes can be taken back
            left[there][here] = 0
    row = row_with_room(left, start, goal)
    while row is not None:
        amount = min([left[here][there] for here, there in row])
        for here, there in row:
            left[here][there] -= amount
            left[there][here] += amount
        row = row_with_room(left, start, goal)
    return {here: {there: net[here][there] - left[here][there] for there in net[here]} for here in net}


def reached_with_room(net, going, start):
    """The dict from all places to which more could come from the start to the place ahead, None for the start.

    going is what filled tells of the net.
    """
    left = {here: {there: net[here][there] - going[here][there] for there in net[here]} for here in net}
    for here in net:
        for there in net[here]:
            left[there][here] = going[here][there]
    return came_from(left, start)


def rows_through(going, start, goal):
    """The list of pairs (row, amount) of rows of places from start to goal by which all goes that is going."""
    left = {here: dict(going[here]) for here in going}
    found = []
    while any([left[start][there] > 0 for there in left[start]]):
        row = [start]
        while row[-1] != goal:
            row.append([there for there in left[row[-1]] if left[row[-1]][there] > 0][0])
        doors = list(zip(row, row[1:]))
        amount = min([left[here][there] for here, there in doors])
        for here, there in doors:
            left[here][there] -= amount
        found.append((row, amount))
    return found


def came_from(left, start):
    """The dict from all places to which there is room from the start to the place ahead, near ones first."""
    came = {start: None}
    near = [start]
    while len(near) > 0:
        further = []
        for here in near:
            for there in left[here]:
                if there not in came and left[here][there] > 0:
                    came[there] = here
                    further.append(there)
        near = further
    return came


def row_with_room(left, start, goal):
    """A shortest row of pairs (here, there) from start to goal with room in each, None if there is none."""
    came = came_from(left, start)
    if goal not in came:
        return None
    row = []
    here = goal
    while here != start:
        row.append((came[here], here))
        here = came[here]
    return row
