"""Writes calls as the interface asks for them, and takes the answers apart again."""

from restgroups.people import answers

GREATEST = 4294967295
LEAST_SIGNED = -2147483648
GREATEST_SIGNED = 2147483647


def begin(n):
    return [0, n]


def like(i, j, x):
    return [1, i, j, x]


def row(i, worths):
    return [2, i, len(worths)] + worths


def even():
    return [3]


def be(groups):
    return [4, len(groups)] + groups


def go(i, k):
    return [5, i, k]


def leave(s):
    return [6, s]


def step(w):
    return [7, w]


def back():
    return [8]


def worths():
    return [9]


def moves(w):
    return [10, w]


def best(i):
    return [11, i]


def leavers(w):
    return [12, w]


def rests(w):
    return [13, w]


def asked(*calls):
    """Each call's answer, as a list of its own."""
    line = [number for call in calls for number in call]
    given = answers(line)
    if type(given) is not list or any(type(number) is not int for number in given):
        raise AssertionError(f"not a list of whole numbers: {given!r}")
    found = []
    at = 0
    while at < len(given):
        found.append(given[at + 1:at + 1 + given[at]])
        if not found[-1] or len(found[-1]) != given[at]:
            raise AssertionError(f"a wrong count at {at}: {given!r}")
        at += 1 + given[at]
    if len(found) != len(calls):
        raise AssertionError(f"{len(calls)} calls, {len(found)} answers")
    return found


def last(*calls):
    return asked(*calls)[-1]


def rows(table):
    return [row(i, list(worths_of)) for i, worths_of in enumerate(table)]


def groups_behind(n, *calls):
    """Each person's group behind the calls: where all are worth 0 one's own group is the best."""
    showing = rows([[0] * n] * n) + [best(i) for i in range(n)]
    found = asked(*calls, *showing)[-n:]
    if any(answer[1] != 0 for answer in found):
        raise AssertionError(f"worth 0 to one another, yet {found!r}")
    return [answer[0] for answer in found]


def worths_behind(n, *calls):
    """What each is worth to each behind the calls, told two by two."""
    found = []
    for i in range(n):
        line = []
        for j in range(n):
            if i == j:
                line.append(0)
            else:
                line.append(last(*calls, like(i, j, 0))[1])
        found.append(line)
    return found


def all_behind(n, *calls):
    """Worths and groups behind the calls, and how many changes can then be taken back."""
    taken = asked(*calls, *[back()] * 11)[-11:]
    return worths_behind(n, *calls), groups_behind(n, *calls), taken.index([-6])
