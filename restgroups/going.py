"""Groups, what people have in them, and where each may go."""


def numbered(groups):
    """The same groups, numbered as they first come."""
    numbers = {}
    for group in groups:
        numbers.setdefault(group, len(numbers))
    return [numbers[group] for group in groups]


def how_many(groups):
    return max(groups) + 1


def those_in(groups, k):
    """Nobody is in the number behind all groups: to go there is to be alone."""
    return [m for m in range(len(groups)) if groups[m] == k]


def has_with(worths, i, people):
    """One's own worth to oneself is kept as 0, so i may be among these or not."""
    return sum([worths[i][m] for m in people])


def has_in(worths, groups, i, k):
    return has_with(worths, i, those_in(groups, k))


def has_now(worths, groups, i):
    return has_in(worths, groups, i, groups[i])


def is_welcome(worths, groups, i, k):
    return all([worths[m][i] >= 0 for m in those_in(groups, k)])


def is_let_go(worths, groups, i):
    return all([worths[m][i] <= 0 for m in those_in(groups, groups[i])])


def ways_there(worths, groups, i, k):
    """By how many of the ways 0, 1, 2 person i may go to k.

    Each way asks all that the one ahead of it asks, so these are always the first ones.
    """
    if has_in(worths, groups, i, k) <= has_now(worths, groups, i):
        return 0
    if not is_welcome(worths, groups, i, k):
        return 1
    if not is_let_go(worths, groups, i):
        return 2
    return 3


def moves_by(worths, groups, way):
    """Each move as who and where, by who, of like ones by where."""
    found = []
    for i in range(len(groups)):
        for k in range(how_many(groups) + 1):
            if ways_there(worths, groups, i, k) > way:
                found.append((i, k))
    return found


def most_among(worths, groups, i, places):
    """Of places in which i has as much the one that is told first."""
    return max(places, key=lambda k: has_in(worths, groups, i, k))


def best_place(worths, groups, i):
    # Their own group is told first, so that another one must be better, not just as good.
    places = [groups[i]] + list(range(how_many(groups) + 1))
    return most_among(worths, groups, i, places)


def step_by(worths, groups, way):
    """The move that a step makes, as who and where; None if nobody may go."""
    moves = moves_by(worths, groups, way)
    if len(moves) == 0:
        return None
    first = moves[0][0]
    places = [move[1] for move in moves if move[0] == first]
    return (first, most_among(worths, groups, first, places))


def gone(groups, i, k):
    """The groups behind i's going to k."""
    return numbered([k if m == i else groups[m] for m in range(len(groups))])
