"""People in groups, and what each has there.

Sets of people are told as numbers, person i counting 2^i; a list by sets has its entry for a set at that number.
"""


def numbered(groups):
    """The same groups, numbered as they first come."""
    numbers = {}
    for group in groups:
        numbers.setdefault(group, len(numbers))
    return [numbers[group] for group in groups]


def how_many(groups):
    return max(groups) + 1


def evened(worths):
    """What the greater number is worth to the lesser one holds for both."""
    rows = []
    for i in range(len(worths)):
        rows.append([worths[min(i, j)][max(i, j)] for j in range(len(worths))])
    return rows


def is_even(worths):
    return evened(worths) == worths


def people_by_set(n):
    sets = [[]]
    for i in range(n):
        sets = sets + [people + [i] for people in sets]
    return sets


def sums_by_set(row):
    """What the people of each set come to, together, by one person's row of worths."""
    sums = [0]
    for worth in row:
        sums = sums + [others + worth for others in sums]
    return sums


def places_in(groups):
    """The set in each group; behind all groups the empty set, to which one goes to be alone."""
    places = [0] * (how_many(groups) + 1)
    for i in range(len(groups)):
        places[groups[i]] = places[groups[i]] | (1 << i)
    return places


class Liking:
    """What people are worth to one another, and what each has with each set.

    One's own worth to oneself is 0, so sums[i] tells the same for a set with i and without.
    """

    def __init__(self, worths):
        self.worths = worths
        self.people = people_by_set(len(worths))
        self.sums = [sums_by_set(row) for row in worths]


class Standing:
    """People who are in groups, with their liking; it is made once and not changed."""

    def __init__(self, liking, groups):
        self.liking = liking
        self.groups = groups
        self.places = places_in(groups)
        self.has = [liking.sums[i][self.places[groups[i]]] for i in range(len(groups))]


def has_in(standing, i, k):
    """What i would have in k with those who are there."""
    return standing.liking.sums[i][standing.places[k]]
