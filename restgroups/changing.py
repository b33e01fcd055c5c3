"""The calls that change what is kept: begin, like, row, even, be, go, leave, step, back."""

from restgroups.going import gone, step_by, ways_there
from restgroups.kept import standing_of
from restgroups.leaving import how_they_leave, is_set, left_by
from restgroups.refusals import LAST_WAY, MOST_PEOPLE, MOST_WORTH, NOT_THERE, NOTHING_TO_DO, OWN_GROUP, WRONG
from restgroups.standing import evened, has_in, how_many, is_even, numbered


def is_worth(x):
    return abs(x) <= MOST_WORTH


def with_row(worths, i, row):
    return [row if m == i else worths[m] for m in range(len(worths))]


def answer_begin(kept, told):
    n = told[0]
    if n < 1 or n > MOST_PEOPLE:
        return [WRONG]
    kept.begin_anew(n)
    return [0]


def answer_like(kept, told):
    i = told[0]
    j = told[1]
    x = told[2]
    if not kept.is_person(i) or not kept.is_person(j):
        return [NOT_THERE]
    if i == j or not is_worth(x):
        return [WRONG]
    row = list(kept.worths[i])
    was = row[j]
    row[j] = x
    kept.change_worths(with_row(kept.worths, i, row))
    return [0, was]


def answer_row(kept, told):
    i = told[0]
    row = told[1:]
    if not kept.is_person(i):
        return [NOT_THERE]
    if len(row) != len(kept.groups) or not all([is_worth(x) for x in row]) or row[i] != 0:
        return [WRONG]
    kept.change_worths(with_row(kept.worths, i, row))
    return [0]


def answer_even(kept, told):
    was_even = is_even(kept.worths)
    kept.change_worths(evened(kept.worths))
    return [1 if was_even else 0]


def answer_be(kept, told):
    n = len(kept.groups)
    if len(told) != n or not all([group < n for group in told]):
        return [WRONG]
    kept.lay_groups(numbered(told))
    return [how_many(kept.groups)]


def answer_go(kept, told):
    i = told[0]
    k = told[1]
    if not kept.is_person(i) or k > how_many(kept.groups):
        return [NOT_THERE]
    if k == kept.groups[i]:
        return [OWN_GROUP]
    standing = standing_of(kept)
    kept.move_to(gone(kept.groups, i, k))
    return [ways_there(standing, i, k), has_in(standing, i, k) - standing.has[i]]


def answer_leave(kept, told):
    s = told[0]
    if not is_set(s, len(kept.groups)):
        return [WRONG]
    standing = standing_of(kept)
    kept.move_to(left_by(standing, s))
    return [how_they_leave(standing, s)]


def answer_step(kept, told):
    way = told[0]
    if way > LAST_WAY:
        return [WRONG]
    move = step_by(standing_of(kept), way)
    if move is None:
        return [NOTHING_TO_DO]
    kept.move_to(gone(kept.groups, move[0], move[1]))
    return [move[0], move[1]]


def answer_back(kept, told):
    if len(kept.past) == 0:
        return [NOTHING_TO_DO]
    kept.take_back()
    return [len(kept.past)]


# By the call's number.
CHANGERS = (
    answer_begin,
    answer_like,
    answer_row,
    answer_even,
    answer_be,
    answer_go,
    answer_leave,
    answer_step,
    answer_back,
)


def answer_changing(kept, number, told):
    return CHANGERS[number](kept, told)
