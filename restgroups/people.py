"""The calls on one object, read from one list of whole numbers and answered in order."""

from restgroups.going import best_place, gone, has_in, has_now, how_many, moves_by, numbered, step_by, ways_there
from restgroups.kept import Kept
from restgroups.leaving import how_they_leave, is_set, leavers_by, left_by

NOT_BEGUN = -61
NOT_THERE = -2
WRONG = -22
OWN_GROUP = -17
NOTHING_TO_DO = -6

MOST_PEOPLE = 5
MOST_WORTH = 20
LAST_WAY = 2
LAST_LEAVING = 1

BEGIN = 0
ROW = 2
BE = 4

# How many whole numbers each call has, ahead of its row if it has one, by the call's number.
PLAIN_NUMBERS = (1, 3, 1, 0, 0, 2, 1, 1, 0, 0, 1, 1, 1, 1, 1, 0, 1, 1, 1, 2, 0, 0, 0, 0, 1, 0, 0)


def is_person(kept, i):
    return i < len(kept.groups)


def is_worth(x):
    return abs(x) <= MOST_WORTH


def with_row(worths, i, row):
    return [row if m == i else worths[m] for m in range(len(worths))]


def evened(worths):
    """What the greater number is worth to the lesser one holds for both."""
    rows = []
    for i in range(len(worths)):
        rows.append([worths[min(i, j)][max(i, j)] for j in range(len(worths))])
    return rows


def answer_begin(kept, told):
    n = told[0]
    if n < 1 or n > MOST_PEOPLE:
        return [WRONG]
    kept.begin_anew(n)
    return [0]


def answer_like(kept, told):
    i = told[0]
    j = told[1]
    x = told[2]
    if not is_person(kept, i) or not is_person(kept, j):
        return [NOT_THERE]
    if i == j or not is_worth(x):
        return [WRONG]
    row = list(kept.worths[i])
    was = row[j]
    row[j] = x
    kept.change_worths(with_row(kept.worths, i, row))
    return [0, was]


def answer_row(kept, told):
    i = told[0]
    row = told[1:]
    if not is_person(kept, i):
        return [NOT_THERE]
    if len(row) != len(kept.groups) or not all([is_worth(x) for x in row]) or row[i] != 0:
        return [WRONG]
    kept.change_worths(with_row(kept.worths, i, row))
    return [0]


def answer_even(kept, told):
    worths = evened(kept.worths)
    was_even = worths == kept.worths
    kept.change_worths(worths)
    return [1 if was_even else 0]


def answer_be(kept, told):
    n = len(kept.groups)
    if len(told) != n or not all([group < n for group in told]):
        return [WRONG]
    kept.lay_groups(numbered(told))
    return [how_many(kept.groups)]


def answer_go(kept, told):
    i = told[0]
    k = told[1]
    if not is_person(kept, i) or k > how_many(kept.groups):
        return [NOT_THERE]
    if k == kept.groups[i]:
        return [OWN_GROUP]
    ways = ways_there(kept.worths, kept.groups, i, k)
    more = has_in(kept.worths, kept.groups, i, k) - has_now(kept.worths, kept.groups, i)
    kept.move_to(gone(kept.groups, i, k))
    return [ways, more]


def answer_leave(kept, told):
    s = told[0]
    if not is_set(s, len(kept.groups)):
        return [WRONG]
    how = how_they_leave(kept.worths, kept.groups, s)
    kept.move_to(left_by(kept.groups, s))
    return [how]


def answer_step(kept, told):
    way = told[0]
    if way > LAST_WAY:
        return [WRONG]
    move = step_by(kept.worths, kept.groups, way)
    if move is None:
        return [NOTHING_TO_DO]
    kept.move_to(gone(kept.groups, move[0], move[1]))
    return [move[0], move[1]]


def answer_back(kept, told):
    if len(kept.past) == 0:
        return [NOTHING_TO_DO]
    kept.take_back()
    return [len(kept.past)]


def answer_worths(kept, told):
    each = [has_now(kept.worths, kept.groups, i) for i in range(len(kept.groups))]
    return [0] + each + [sum(each)]


def answer_moves(kept, told):
    way = told[0]
    if way > LAST_WAY:
        return [WRONG]
    moves = moves_by(kept.worths, kept.groups, way)
    given = [len(moves)]
    for move in moves:
        given.extend(move)
    return given


def answer_best(kept, told):
    i = told[0]
    if not is_person(kept, i):
        return [NOT_THERE]
    k = best_place(kept.worths, kept.groups, i)
    return [k, has_in(kept.worths, kept.groups, i, k)]


def answer_leavers(kept, told):
    w = told[0]
    if w > LAST_LEAVING:
        return [WRONG]
    leavers = leavers_by(kept.worths, kept.groups, w)
    return [len(leavers)] + leavers


def answer_rests(kept, told):
    way = told[0]
    if way > LAST_WAY:
        return [WRONG]
    return [1 if len(moves_by(kept.worths, kept.groups, way)) == 0 else 0]


# By the call's number.
ANSWERERS = (
    answer_begin,
    answer_like,
    answer_row,
    answer_even,
    answer_be,
    answer_go,
    answer_leave,
    answer_step,
    answer_back,
    answer_worths,
    answer_moves,
    answer_best,
    answer_leavers,
    answer_rests,
)


def split_calls(calls):
    """Each call as its number and all numbers told with it, a row's count left out."""
    found = []
    at = 0
    while at < len(calls):
        number = calls[at]
        end = at + 1 + PLAIN_NUMBERS[number]
        told = calls[at + 1:end]
        if number == ROW or number == BE:
            size = calls[end]
            told = told + calls[end + 1:end + 1 + size]
            end = end + 1 + size
        found.append((number, told))
        at = end
    return found


def answer_call(kept, number, told):
    if number != BEGIN and not kept.is_begun():
        return [NOT_BEGUN]
    return ANSWERERS[number](kept, told)


def answers(calls):
    """For each call, in order: how many numbers are answered, then these."""
    kept = Kept()
    given = []
    for number, told in split_calls(calls):
        numbers = answer_call(kept, number, told)
        given.append(len(numbers))
        given.extend(numbers)
    return given
