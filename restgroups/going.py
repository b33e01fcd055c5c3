"""Where each person may go, by the three ways, and the step that is made of it."""

from restgroups.standing import has_in, numbered

EVERY_WAY = 3


def is_welcome(standing, i, k):
    liking = standing.liking
    return all([liking.worths[m][i] >= 0 for m in liking.people[standing.places[k]]])


def is_let_go(standing, i):
    liking = standing.liking
    return all([liking.worths[m][i] <= 0 for m in liking.people[standing.places[standing.groups[i]]]])


def ways_there(standing, i, k):
    """By how many of the ways 0, 1, 2 person i may go to k.

    Each way asks all that the one ahead of it asks, so these are always the first ones.
    """
    if has_in(standing, i, k) <= standing.has[i]:
        return 0
    if not is_welcome(standing, i, k):
        return 1
    if not is_let_go(standing, i):
        return 2
    return EVERY_WAY


def wished_by(standing, i):
    """Where i would rather go, rising."""
    sums = standing.liking.sums[i]
    now = standing.has[i]
    return [k for k, there in enumerate(standing.places) if sums[there] > now]


def moves_by(standing, way):
    """Each move as who and where, by who, of like ones by where."""
    found = []
    for i in range(len(standing.groups)):
        for k in wished_by(standing, i):
            if ways_there(standing, i, k) > way:
                found.append((i, k))
    return found


def ways_anywhere(standing):
    """By how many of the ways somebody may go somewhere: by the ways from that number on all are at rest."""
    most = 0
    for i in range(len(standing.groups)):
        for k in wished_by(standing, i):
            most = max(most, ways_there(standing, i, k))
        if most == EVERY_WAY:
            return most
    return most


def is_at_rest(standing, way):
    return ways_anywhere(standing) <= way


def most_among(standing, i, places):
    """Of places in which i has as much the one that is told first."""
    return max(places, key=lambda k: has_in(standing, i, k))


def best_place(standing, i):
    # Their own group is told first, so that another one must be better, not just as good.
    places = [standing.groups[i]] + list(range(len(standing.places)))
    return most_among(standing, i, places)


def step_by(standing, way):
    """The move that a step makes, as who and where; None if nobody may go."""
    moves = moves_by(standing, way)
    if len(moves) == 0:
        return None
    first = moves[0][0]
    places = [move[1] for move in moves if move[0] == first]
    return (first, most_among(standing, first, places))


def gone(groups, i, k):
    """The groups behind i's going to k."""
    return numbered([k if m == i else groups[m] for m in range(len(groups))])
