"""Which sets of people would leave, what holds, and which sets are firm."""

from restgroups.standing import how_many, numbered

NOT_AT_ALL = 0
WEAKLY = 1
WHOLLY = 2


def is_set(s, n):
    """Whether s is a set of some of n people; the empty one is none here."""
    return s > 0 and (s >> n) == 0


def how_they_leave(standing, s):
    """How the people of s would leave; those who would leave wholly would leave weakly too."""
    sums = standing.liking.sums
    has = standing.has
    people = standing.liking.people[s]
    gaining = 0
    for i in people:
        if sums[i][s] < has[i]:
            return NOT_AT_ALL
        if sums[i][s] > has[i]:
            gaining = gaining + 1
    if gaining == 0:
        return NOT_AT_ALL
    return WHOLLY if gaining == len(people) else WEAKLY


def least_leaving(w):
    return WEAKLY if w == 1 else WHOLLY


def leavers_by(standing, w):
    """The sets that would leave (w 0), or would leave at least weakly (w 1), rising."""
    least = least_leaving(w)
    return [s for s in range(1, len(standing.liking.people)) if how_they_leave(standing, s) >= least]


def leaving_at_most(standing):
    """How some set would leave, where none would more."""
    most = NOT_AT_ALL
    for s in range(1, len(standing.liking.people)):
        most = max(most, how_they_leave(standing, s))
        if most == WHOLLY:
            return most
    return most


def is_holding(standing, w):
    return leaving_at_most(standing) < least_leaving(w)


def left_by(standing, s):
    """The groups behind the leaving of s."""
    groups = standing.groups
    people = standing.liking.people[s]
    apart = how_many(groups)
    return numbered([apart if i in people else groups[i] for i in range(len(groups))])


def is_lesser_within(part, s):
    return part < s and (part & s) == part


def is_better_apart(liking, part, s):
    """Whether each of part would have more with just these than with all of s."""
    return all([liking.sums[i][part] > liking.sums[i][s] for i in liking.people[part]])


def is_firm(liking, s):
    for part in range(1, s):
        if is_lesser_within(part, s) and is_better_apart(liking, part, s):
            return False
    return True


def firm_sets(liking):
    """The sets that are firm, rising."""
    return [s for s in range(1, len(liking.people)) if is_firm(liking, s)]
