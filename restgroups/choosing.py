"""All ways to be in groups: of which kinds of rest each is, which is best, which beats another; and who envies whom."""

from restgroups.going import ways_anywhere
from restgroups.leaving import WEAKLY, WHOLLY, leaving_at_most
from restgroups.standing import Standing, how_many

KINDS_OF_REST = 5


def with_one_more(ways):
    """Each way, with one person more in each group that is there, and alone, in order."""
    longer = []
    for groups in ways:
        for k in range(how_many(groups) + 1):
            longer.append(groups + [k])
    return longer


def all_ways(n):
    """All ways to be in groups, in their order."""
    ways = [[0]]
    for i in range(1, n):
        ways = with_one_more(ways)
    return ways


def all_standings(liking):
    return [Standing(liking, groups) for groups in all_ways(len(liking.worths))]


def kinds_of(standing):
    """Of each kind of rest, 0 to 4, whether they are at rest so."""
    ways = ways_anywhere(standing)
    leaving = leaving_at_most(standing)
    return [ways <= 0, ways <= 1, ways <= 2, leaving < WHOLLY, leaving < WEAKLY]


def count_kinds(standings):
    """Of each kind of rest, 0 to 4, how many of these are."""
    counts = [0] * KINDS_OF_REST
    for standing in standings:
        kinds = kinds_of(standing)
        counts = [counts[w] + 1 if kinds[w] else counts[w] for w in range(KINDS_OF_REST)]
    return counts


def goodness(standing, k):
    """What all have together (k 0), or what the least is that one has (k 1)."""
    return min(standing.has) if k == 1 else sum(standing.has)


def best_by(standings, k):
    """Of like ones the first; None if there are no standings."""
    return max(standings, key=lambda standing: goodness(standing, k), default=None)


def is_beaten_by(standing, other):
    """Whether in the other nobody has less and somebody more."""
    return other.has != standing.has and all([x <= y for x, y in zip(standing.has, other.has)])


def first_beating(standing):
    """The first of all ways by which they are beaten; None if they are by nothing."""
    for other in all_standings(standing.liking):
        if is_beaten_by(standing, other):
            return other
    return None


def wanted_by(row):
    """What all those come to, together, who are worth more than 0."""
    return sum([worth for worth in row if worth > 0])


def first_perfect(liking):
    """The first of all ways that is perfect; None if none is."""
    wanted = [wanted_by(row) for row in liking.worths]
    for standing in all_standings(liking):
        if standing.has == wanted:
            return standing
    return None


def is_envious(standing, i, j):
    """Whether i, who is not in j's group, would have more there without j."""
    there = standing.places[standing.groups[j]]
    return standing.groups[i] != standing.groups[j] and standing.liking.sums[i][there - (1 << j)] > standing.has[i]


def envious_pairs(standing):
    """Who envies whom, by the first, of like ones by the second."""
    found = []
    for i in range(len(standing.groups)):
        for j in range(len(standing.groups)):
            if is_envious(standing, i, j):
                found.append((i, j))
    return found
