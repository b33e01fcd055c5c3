"""Many made-up lines of calls, answered a second time straight by the document's words, and what holds of them."""

import random
import unittest
from itertools import combinations

from tests.helper import (
    asked, back, be, begin, best, even, go, groups_behind, last, leave, leavers, like, moves, rests, row, rows, step,
    worths, worths_behind,
)


class Words:
    """Groups as a list of sets of people, in the order in which they first come."""

    def __init__(self):
        self.now = None
        self.before = []

    def answer(self, call):
        name = NAMES[call[0]]
        if name != "begin" and self.now is None:
            return [-61]
        ahead = self.now
        given = getattr(self, name)(*call[1:])
        if name in CHANGES and given[0] >= 0:
            self.before = (self.before + [ahead])[-10:]
        return given

    def put(self, worth=None, groups=None):
        now_worth, now_groups = self.now
        groups = now_groups if groups is None else sorted([g for g in groups if g], key=min)
        self.now = (now_worth if worth is None else worth, groups)

    @property
    def n(self):
        return sum(len(group) for group in self.now[1])

    def with_these(self, i, people):
        return sum(self.now[0].get((i, j), 0) for j in people if j != i)

    def own(self, i):
        return next(group for group in self.now[1] if i in group)

    def places(self):
        return self.now[1] + [frozenset()]

    def may(self, i, k, way):
        there = self.places()[k]
        if there == self.own(i) or self.with_these(i, there) <= self.with_these(i, self.own(i)):
            return False
        welcome = all(self.with_these(m, there | {i}) >= self.with_these(m, there) for m in there)
        let_go = all(self.with_these(m, self.own(i) - {i}) >= self.with_these(m, self.own(i)) for m in self.own(i) - {i})
        return (True, welcome, welcome and let_go)[way]

    def all_moves(self, way):
        return [(i, k) for i in range(self.n) for k in range(len(self.places())) if self.may(i, k, way)]

    def moved(self, people, there):
        self.put(groups=[g - people for g in self.now[1] if g != there] + [there | people])

    def sets(self):
        return [frozenset(s) for size in range(1, self.n + 1) for s in combinations(range(self.n), size)]

    def leaving(self, people):
        more = [self.with_these(i, people) - self.with_these(i, self.own(i)) for i in people]
        if all(x > 0 for x in more):
            return 2
        return 1 if all(x >= 0 for x in more) and any(x > 0 for x in more) else 0

    def begin(self, n):
        if n not in (1, 2, 3, 4, 5):
            return [-22]
        self.now = ({}, [frozenset([i]) for i in range(n)])
        self.before = []
        return [0]

    def like(self, i, j, x):
        if i >= self.n or j >= self.n:
            return [-2]
        if i == j or x not in range(-20, 21):
            return [-22]
        was = self.now[0].get((i, j), 0)
        self.put(worth={**self.now[0], (i, j): x})
        return [0, was]

    def row(self, i, count, *told):
        if i >= self.n:
            return [-2]
        if count != self.n or any(x not in range(-20, 21) for x in told) or told[i]:
            return [-22]
        self.put(worth={**self.now[0], **{(i, j): x for j, x in enumerate(told) if j != i}})
        return [0]

    def even(self):
        worth = dict(self.now[0])
        for lesser, greater in combinations(range(self.n), 2):
            worth[greater, lesser] = worth.get((lesser, greater), 0)
        same = all(worth[pair] == self.now[0].get(pair, 0) for pair in worth)
        self.put(worth=worth)
        return [int(same)]

    def be(self, count, *told):
        if count != self.n or any(x >= self.n for x in told):
            return [-22]
        self.put(groups=[frozenset(i for i in range(self.n) if told[i] == x) for x in set(told)])
        return [len(self.now[1])]

    def back(self):
        if not self.before:
            return [-6]
        self.now = self.before.pop()
        return [len(self.before)]

    def go(self, i, k):
        if i >= self.n or k > len(self.now[1]):
            return [-2]
        there = self.places()[k]
        if there == self.own(i):
            return [-17]
        ways = sum(self.may(i, k, way) for way in range(3))
        more = self.with_these(i, there) - self.with_these(i, self.own(i))
        self.moved({i}, there)
        return [ways, more]

    def leave(self, s):
        people = frozenset(i for i in range(32) if s & 2 ** i)
        if people not in self.sets():
            return [-22]
        how = self.leaving(people)
        self.moved(people, frozenset())
        return [how]

    def step(self, way):
        if way > 2:
            return [-22]
        found = self.all_moves(way)
        if not found:
            return [-6]
        who = min(i for i, k in found)
        where = min((k for i, k in found if i == who), key=lambda k: (-self.with_these(who, self.places()[k]), k))
        self.moved({who}, self.places()[where])
        return [who, where]

    def worths(self):
        each = [self.with_these(i, self.own(i)) for i in range(self.n)]
        return [0, *each, sum(each)]

    def moves(self, way):
        if way > 2:
            return [-22]
        found = self.all_moves(way)
        return [len(found)] + [number for move in found for number in move]

    def best(self, i):
        if i >= self.n:
            return [-2]
        have = [self.with_these(i, place) for place in self.places()]
        mine = self.now[1].index(self.own(i))
        where = mine if have[mine] == max(have) else have.index(max(have))
        return [where, have[where]]

    def leavers(self, w):
        if w > 1:
            return [-22]
        found = sorted(sum(2 ** i for i in s) for s in self.sets() if self.leaving(s) >= 2 - w)
        return [len(found)] + found

    def rests(self, way):
        return [-22] if way > 2 else [int(not self.all_moves(way))]


NAMES = ["begin", "like", "row", "even", "be", "go", "leave", "step", "back", "worths", "moves", "best", "leavers",
         "rests"]
CHANGES = ["like", "row", "even", "be", "go", "leave", "step"]


def made_up_row(source, n, spread):
    length = n if source.random() < 0.9 else source.randint(0, 12)
    return [source.randint(-spread, spread) if source.random() < 0.97 else 21 for _ in range(length)]


def made_up_call(source, n, spread):
    """Mostly calls that are answered, now and then one that is refused."""
    i, j = source.randint(0, n - 1), source.randint(0, n - 1)
    if source.random() < 0.05:
        i = n
    told = made_up_row(source, n, spread)
    if i < len(told) and source.random() < 0.95:
        told[i] = 0
    groups = [source.randint(0, n - 1) for _ in range(n)] if source.random() < 0.9 else [abs(x) for x in told]
    way = source.choice((0, 0, 1, 1, 2, 2, 3))
    return source.choice((
        like(i, j, source.randint(-spread, spread)), row(i, told), row(i, told), even(), be(groups), be(groups),
        go(i, source.randint(0, n + 1)), go(i, source.randint(0, n)), leave(source.randint(0, 2 ** n)), step(way),
        step(way), back(), back(), worths(), moves(way), moves(way), best(i), best(j), leavers(way % 3), rests(way),
    ))


def made_up_line(seed):
    source = random.Random(seed)
    n = source.choice((1, 2, 3, 4, 5, 5))
    spread = source.choice((1, 2, 5, 20))
    line = [begin(n)]
    for _ in range(120):
        if source.random() < 0.01:
            line.append(begin(source.randint(0, 6)))
        line.append(made_up_call(source, n, spread))
    return line


def made_up_table(source, n):
    spread = source.choice((1, 2, 5, 20))
    return [[0 if i == j else source.randint(-spread, spread) for j in range(n)] for i in range(n)]


def made_up_place(seed):
    """Worths and groups, laid by their calls."""
    source = random.Random(seed)
    n = source.randint(1, 5)
    groups = [source.randint(0, n - 1) for _ in range(n)]
    return n, [begin(n), *rows(made_up_table(source, n)), be(groups)]


class ByTheWords(unittest.TestCase):
    def test_made_up_lines(self):
        seen = set()
        for seed in range(300):
            line = made_up_line(seed)
            words = Words()
            for call, given in zip(line, asked(*line)):
                self.assertEqual(given, words.answer(call), (seed, call))
                seen.add((NAMES[call[0]], min(given[0], 0)))
        for name in ("like", "row", "best", "go"):
            self.assertIn((name, -2), seen)
        for name in ("begin", "like", "row", "be", "leave", "step", "moves", "leavers", "rests"):
            self.assertIn((name, -22), seen)
        for refused in (("go", -17), ("step", -6), ("back", -6)):
            self.assertIn(refused, seen)
        for name in NAMES:
            self.assertIn((name, 0), seen)


class WhatHolds(unittest.TestCase):
    def test_a_once_even_each_step_makes_all_have_more(self):
        for seed in range(60):
            n, place = made_up_place(seed)
            for way in range(3):
                given = asked(*place, even(), *[worths(), step(way)] * 60)[len(place) + 1:]
                sums = [answer[-1] for answer in given[0::2]]
                steps = [answer[0] for answer in given[1::2]]
                self.assertEqual(steps[-1], -6)
                ended = steps.index(-6)
                self.assertTrue(all(sums[at] < sums[at + 1] for at in range(ended)), seed)

    def test_b_welcome_and_let_go_nobody_has_less(self):
        for seed in range(200):
            n, place = made_up_place(seed)
            ahead, who, behind = asked(*place, worths(), step(2), worths())[-3:]
            if who != [-6]:
                self.assertTrue(all(x <= y for x, y in zip(ahead[1:-1], behind[1:-1])), seed)
                self.assertLess(ahead[who[0] + 1], behind[who[0] + 1])

    def test_e_refused_and_asking_changes_nothing_and_taken_back_all_is_as_it_was(self):
        for seed in range(40):
            n, place = made_up_place(seed)
            source = random.Random(seed)
            ahead = worths_behind(n, *place), groups_behind(n, *place)
            for _ in range(6):
                call = made_up_call(source, n, 20)
                if call != back():
                    changed = last(*place, call)[0] >= 0 and NAMES[call[0]] in CHANGES
                    line = place + [call] + [back()] * changed
                    self.assertEqual((worths_behind(n, *line), groups_behind(n, *line)), ahead, (seed, call))


if __name__ == "__main__":
    unittest.main()
