"""Sets of people, told as numbers (person i counts 2^i), and whether they would leave."""

from restgroups.going import has_now, has_with, how_many, numbered

NOT_AT_ALL = 0
WEAKLY = 1
WHOLLY = 2


def is_set(s, n):
    """Whether s is a set of some of n people; the empty one is none here."""
    return s > 0 and (s >> n) == 0


def people_of(s, n):
    return [i for i in range(n) if ((s >> i) & 1) == 1]


def how_they_leave(worths, groups, s):
    """How the people of s would leave; those who would leave wholly would leave weakly too."""
    people = people_of(s, len(groups))
    gains = [has_with(worths, i, people) - has_now(worths, groups, i) for i in people]
    if min(gains) > 0:
        return WHOLLY
    if min(gains) == 0 and max(gains) > 0:
        return WEAKLY
    return NOT_AT_ALL


def leavers_by(worths, groups, w):
    """The sets that would leave (w 0), or would leave at least weakly (w 1), rising."""
    least = WEAKLY if w == 1 else WHOLLY
    return [s for s in range(1, 1 << len(groups)) if how_they_leave(worths, groups, s) >= least]


def left_by(groups, s):
    """The groups behind the leaving of s."""
    people = people_of(s, len(groups))
    apart = how_many(groups)
    return numbered([apart if i in people else groups[i] for i in range(len(groups))])
