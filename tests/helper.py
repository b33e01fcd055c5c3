"""Writes calls as the interface asks for them, and takes the answers apart again."""

from restgroups.people import answers

GREATEST = 4294967295
LEAST_SIGNED = -2147483648
GREATEST_SIGNED = 2147483647


def begin(n):
    return [0, n]


def like(i, j, x):
    return [1, i, j, x]


def row(i, worths):
    return [2, i, len(worths)] + worths


def even():
    return [3]


def be(groups):
    return [4, len(groups)] + groups


def go(i, k):
    return [5, i, k]


def leave(s):
    return [6, s]


def step(w):
    return [7, w]


def back():
    return [8]


def worths():
    return [9]


def moves(w):
    return [10, w]


def best(i):
    return [11, i]


def leavers(w):
    return [12, w]


def rests(w):
    return [13, w]


def holds(w):
    return [14, w]


def kinds():
    return [15]


def run(w):
    return [16, w]


def rounds(w):
    """The call round."""
    return [17, w]


def most(k):
    return [18, k]


def among(k, w):
    return [19, k, w]


def beaten():
    return [20]


def envies():
    return [21]


def firm():
    return [22]


def perfect():
    return [23]


def likes(i):
    return [24, i]


def grouped():
    """The call groups."""
    return [25]


def state():
    return [26]


def asked(*calls):
    """Each call's answer, as a list of its own."""
    line = [number for call in calls for number in call]
    given = answers(line)
    if type(given) is not list or any(type(number) is not int for number in given):
        raise AssertionError(f"not a list of whole numbers: {given!r}")
    found = []
    at = 0
    while at < len(given):
        found.append(given[at + 1:at + 1 + given[at]])
        if not found[-1] or len(found[-1]) != given[at]:
            raise AssertionError(f"a wrong count at {at}: {given!r}")
        at += 1 + given[at]
    if len(found) != len(calls):
        raise AssertionError(f"{len(calls)} calls, {len(found)} answers")
    return found


def last(*calls):
    return asked(*calls)[-1]


def rows(table):
    return [row(i, list(worths_of)) for i, worths_of in enumerate(table)]


def alike(n, x):
    """Each is worth x to each other one."""
    return [begin(n), *rows([[0 if i == j else x for j in range(n)] for i in range(n)])]


# Five in a ring: each likes the next one best, the one ahead less, the others not at all. Nothing holds.
RING = [begin(5), *rows([[(0, 2, -20, -20, 1)[(j - i) % 5] for j in range(5)] for i in range(5)])]


def groups_behind(n, *calls):
    """Each person's group behind the calls."""
    count, *groups = last(*calls, grouped())
    if len(groups) != n or count != len(set(groups)):
        raise AssertionError(f"{n} people, yet {count}, {groups!r}")
    return groups


def worths_behind(n, *calls):
    """What each is worth to each behind the calls."""
    found = asked(*calls, *[likes(i) for i in range(n)])[-n:]
    if any(len(answer) != n + 1 or answer[0] != n for answer in found):
        raise AssertionError(f"{n} people, yet {found!r}")
    return [answer[1:] for answer in found]


def all_behind(n, *calls):
    """Worths, groups and state behind the calls, and how many changes can really be taken back then."""
    taken = asked(*calls, *[back()] * 11)[-11:]
    return worths_behind(n, *calls), groups_behind(n, *calls), last(*calls, state()), taken.index([-6])
