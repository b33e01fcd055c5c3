"""Many made-up lines of calls, answered a second time straight by the document's words, and what holds of them."""

import random
import unittest
from itertools import combinations, product

from tests.helper import (
    among, asked, back, be, beaten, begin, best, envies, even, firm, go, grouped, holds, kinds, leave, leavers, like,
    likes, most, moves, perfect, rests, rounds, row, run, state, step, worths,
)


class Words:
    """Groups as a list of sets of people, in the order in which they first come."""

    def __init__(self):
        self.now = None
        self.before = []

    def answer(self, call):
        name = NAMES[call[0]]
        if name != "begin" and self.now is None:
            return [-61]
        ahead = self.now
        given = getattr(self, name)(*call[1:])
        if name in CHANGES and given[0] >= 0:
            self.before = (self.before + [ahead])[-10:]
        return given

    def put(self, worth=None, groups=None, made=None):
        now_worth, now_groups, now_made = self.now
        groups = now_groups if groups is None else sorted([g for g in groups if g], key=min)
        self.now = (now_worth if worth is None else worth, groups, now_made if made is None else made)

    @property
    def n(self):
        return sum(len(group) for group in self.now[1])

    def with_these(self, i, people):
        return sum(self.now[0].get((i, j), 0) for j in people if j != i)

    def own(self, i):
        return next(group for group in self.now[1] if i in group)

    def places(self):
        return self.now[1] + [frozenset()]

    def may(self, i, k, way):
        there = self.places()[k]
        if there == self.own(i) or self.with_these(i, there) <= self.with_these(i, self.own(i)):
            return False
        welcome = all(self.with_these(m, there | {i}) >= self.with_these(m, there) for m in there)
        left = self.own(i) - {i}
        let_go = all(self.with_these(m, left) >= self.with_these(m, self.own(i)) for m in left)
        return (True, welcome, welcome and let_go)[way]

    def all_moves(self, way):
        return [(i, k) for i in range(self.n) for k in range(len(self.places())) if self.may(i, k, way)]

    def moved(self, people, there):
        self.put(groups=[g - people for g in self.now[1] if g != there] + [there | people], made=self.now[2] + 1)

    def sets(self):
        return [frozenset(s) for size in range(1, self.n + 1) for s in combinations(range(self.n), size)]

    def leaving(self, people):
        more = [self.with_these(i, people) - self.with_these(i, self.own(i)) for i in people]
        if all(x > 0 for x in more):
            return 2
        return 1 if all(x >= 0 for x in more) and any(x > 0 for x in more) else 0

    def begin(self, n):
        if n not in (1, 2, 3, 4, 5):
            return [-22]
        self.now = ({}, [frozenset([i]) for i in range(n)], 0)
        self.before = []
        return [0]

    def like(self, i, j, x):
        if i >= self.n or j >= self.n:
            return [-2]
        if i == j or x not in range(-20, 21):
            return [-22]
        was = self.now[0].get((i, j), 0)
        self.put(worth={**self.now[0], (i, j): x})
        return [0, was]

    def row(self, i, count, *told):
        if i >= self.n:
            return [-2]
        if count != self.n or any(x not in range(-20, 21) for x in told) or told[i]:
            return [-22]
        self.put(worth={**self.now[0], **{(i, j): x for j, x in enumerate(told) if j != i}})
        return [0]

    def all_even(self):
        return all(self.now[0].get((i, j), 0) == self.now[0].get((j, i), 0) for i, j in combinations(range(self.n), 2))

    def even(self):
        same = self.all_even()
        worth = dict(self.now[0])
        for lesser, greater in combinations(range(self.n), 2):
            worth[greater, lesser] = worth.get((lesser, greater), 0)
        self.put(worth=worth)
        return [int(same)]

    def be(self, count, *told):
        if count != self.n or any(x >= self.n for x in told):
            return [-22]
        self.put(groups=[frozenset(i for i in range(self.n) if told[i] == x) for x in set(told)], made=0)
        return [len(self.now[1])]

    def back(self):
        if not self.before:
            return [-6]
        self.now = self.before.pop()
        return [len(self.before)]

    def go(self, i, k):
        if i >= self.n or k > len(self.now[1]):
            return [-2]
        there = self.places()[k]
        if there == self.own(i):
            return [-17]
        ways = sum(self.may(i, k, way) for way in range(3))
        more = self.with_these(i, there) - self.with_these(i, self.own(i))
        self.moved({i}, there)
        return [ways, more]

    def leave(self, s):
        people = frozenset(i for i in range(32) if s & 2 ** i)
        if people not in self.sets():
            return [-22]
        how = self.leaving(people)
        self.moved(people, frozenset())
        return [how]

    def step(self, way):
        if way > 2:
            return [-22]
        found = self.all_moves(way)
        if not found:
            return [-6]
        who = min(i for i, k in found)
        where = min((k for i, k in found if i == who), key=lambda k: (-self.with_these(who, self.places()[k]), k))
        self.moved({who}, self.places()[where])
        return [who, where]

    def worths(self):
        each = [self.with_these(i, self.own(i)) for i in range(self.n)]
        return [0, *each, sum(each)]

    def moves(self, way):
        if way > 2:
            return [-22]
        found = self.all_moves(way)
        return [len(found)] + [number for move in found for number in move]

    def best(self, i):
        if i >= self.n:
            return [-2]
        have = [self.with_these(i, place) for place in self.places()]
        mine = self.now[1].index(self.own(i))
        where = mine if have[mine] == max(have) else have.index(max(have))
        return [where, have[where]]

    def leavers(self, w):
        if w > 1:
            return [-22]
        found = sorted(sum(2 ** i for i in s) for s in self.sets() if self.leaving(s) >= 2 - w)
        return [len(found)] + found

    def rests(self, way):
        return [-22] if way > 2 else [int(not self.all_moves(way))]

    def holds(self, w):
        return [-22] if w > 1 else [int(not any(self.leaving(s) >= 2 - w for s in self.sets()))]

    def at(self, groups):
        other = Words()
        other.now = (self.now[0], groups, 0)
        return other

    def all_ways(self):
        """Every way to number the groups, those kept that are numbered as they first come."""
        ways = []
        for told in product(range(self.n), repeat=self.n):
            if list(dict.fromkeys(told)) == list(range(len(set(told)))):
                numbers = range(max(told) + 1)
                ways.append(self.at([frozenset(i for i in range(self.n) if told[i] == k) for k in numbers]))
        return ways

    def told(self):
        return [len(self.now[1])] + [self.now[1].index(self.own(i)) for i in range(self.n)]

    def have(self):
        return [self.with_these(i, self.own(i)) for i in range(self.n)]

    def is_kind(self, w):
        if w < 3:
            return not any(self.may(i, k, w) for i in range(self.n) for k in range(len(self.places())))
        return self.holds(w - 3) == [1]

    def kinds(self):
        ways = self.all_ways()
        return [len(ways)] + [sum(way.is_kind(w) for way in ways) for w in range(5)]

    def run(self, way):
        if way > 2:
            return [-22]
        other = self.at(self.now[1])
        been = [other.told()]
        while other.step(way) != [-6]:
            been.append(other.told())
            if been[-1] in been[:-1]:
                return [len(been) - 1, 0] + been[-1][1:]
        return [len(been) - 1, 1] + been[-1][1:]

    def made_of(self, way):
        """What one move makes of these, whoever goes."""
        found = []
        for i, k in self.all_moves(way):
            other = self.at(self.now[1])
            other.moved({i}, other.places()[k])
            found.append(tuple(other.now[1]))
        return set(found)

    def round(self, way):
        if way > 2:
            return [-22]
        start = tuple(self.now[1])
        after = {start: self.made_of(way)}
        while any(later not in after for found in after.values() for later in found):
            for later in set().union(*after.values()) - set(after):
                after[later] = self.at(list(later)).made_of(way)
        comes_to = {groups: set(found) for groups, found in after.items()}
        for middle in after:
            for groups in after:
                if middle in comes_to[groups]:
                    comes_to[groups] |= comes_to[middle]
        return [len(after), int(any(not found for found in after.values())),
                int(any(groups in comes_to[groups] for groups in after))]

    def best_of(self, ways, k):
        values = [(sum, min)[k](way.have()) for way in ways]
        return ways[values.index(max(values))].told() + [max(values)]

    def most(self, k):
        return [-22] if k > 1 else self.best_of(self.all_ways(), k)

    def among(self, k, w):
        if k > 1 or w > 4:
            return [-22]
        ways = [way for way in self.all_ways() if way.is_kind(w)]
        return self.best_of(ways, k) if ways else [-33]

    def beaten(self):
        mine = self.have()
        for way in self.all_ways():
            more = [y - x for x, y in zip(mine, way.have())]
            if min(more) >= 0 and max(more) > 0:
                return way.told()
        return [-33]

    def envies(self):
        found = [(i, j) for i in range(self.n) for j in range(self.n) if self.own(i) != self.own(j)
                 and self.with_these(i, (self.own(j) - {j}) | {i}) > self.with_these(i, self.own(i))]
        return [len(found)] + [number for pair in found for number in pair]

    def firm(self):
        found = []
        for s in self.sets():
            lesser = [part for part in self.sets() if part < s]
            if not any(all(self.with_these(i, part) > self.with_these(i, s) for i in part) for part in lesser):
                found.append(sum(2 ** i for i in s))
        return [len(found)] + sorted(found)

    def perfect(self):
        wanted = [sum(x for (who, _), x in self.now[0].items() if who == i and x > 0) for i in range(self.n)]
        for way in self.all_ways():
            if way.have() == wanted:
                return way.told()
        return [-33]

    def likes(self, i):
        return [-2] if i >= self.n else [self.n] + [self.now[0].get((i, j), 0) for j in range(self.n)]

    def groups(self):
        return self.told()

    def state(self):
        return [self.n, self.now[2], int(self.all_even()), len(self.before)]


NAMES = ["begin", "like", "row", "even", "be", "go", "leave", "step", "back", "worths", "moves", "best", "leavers",
         "rests", "holds", "kinds", "run", "round", "most", "among", "beaten", "envies", "firm", "perfect", "likes",
         "groups", "state"]
CHANGES = ["like", "row", "even", "be", "go", "leave", "step"]


def made_up_row(source, n, spread):
    length = n if source.random() < 0.9 else source.randint(0, 12)
    return [source.randint(-spread, spread) if source.random() < 0.97 else 21 for _ in range(length)]


def made_up_call(source, n, spread):
    """Mostly calls that are answered, now and then one that is refused."""
    i, j = source.randint(0, n - 1), source.randint(0, n - 1)
    if source.random() < 0.05:
        i = n
    told = made_up_row(source, n, spread)
    if i < len(told) and source.random() < 0.95:
        told[i] = 0
    groups = [source.randint(0, n - 1) for _ in range(n)] if source.random() < 0.9 else [abs(x) for x in told]
    way, k = source.choice((0, 0, 1, 1, 2, 2, 3)), source.choice((0, 0, 0, 1, 1, 1, 2))
    changing = (
        like(i, j, source.randint(-spread, spread)), row(i, told), row(i, told), even(), be(groups), be(groups),
        go(i, source.randint(0, n + 1)), go(i, source.randint(0, n)), leave(source.randint(0, 2 ** n)), step(way),
        step(way), back(), back(),
    )
    asking = (
        worths(), moves(way), best(i), leavers(way % 3), rests(way), holds(k), kinds(), run(way), rounds(way), most(k),
        among(k, source.randint(0, 5)), beaten(), envies(), firm(), perfect(), likes(i), grouped(), state(),
    )
    return source.choice(changing if source.random() < 0.5 else asking)


def made_up_line(seed):
    source = random.Random(seed)
    n = source.choice((1, 2, 3, 3, 4, 4, 5))
    spread = source.choice((1, 2, 5, 20))
    line = [begin(n)]
    for _ in range(100):
        if source.random() < 0.01:
            line.append(begin(source.randint(0, 6)))
        line.append(made_up_call(source, n, spread))
    return line


class ByTheWords(unittest.TestCase):
    def test_made_up_lines(self):
        seen = set()
        for seed in range(300):
            line = made_up_line(seed)
            words = Words()
            for call, given in zip(line, asked(*line)):
                self.assertEqual(given, words.answer(call), (seed, call))
                seen.add((NAMES[call[0]], min(given[0], 0)))
        for name in ("like", "row", "best", "go", "likes"):
            self.assertIn((name, -2), seen)
        for name in ("begin", "like", "row", "be", "leave", "step", "moves", "leavers", "rests", "holds", "run",
                     "round", "most", "among"):
            self.assertIn((name, -22), seen)
        for refused in (("go", -17), ("step", -6), ("back", -6), ("among", -33), ("beaten", -33), ("perfect", -33)):
            self.assertIn(refused, seen)
        for name in NAMES:
            self.assertIn((name, 0), seen)


# What is asked behind each call of a made-up line.
SHOWN = [worths(), grouped(), state()] + [likes(i) for i in range(5)]
HELD = [holds(0), holds(1), leavers(0), leavers(1), beaten()]


def shown_lines():
    """Made-up lines, each call with its answer and what is shown ahead of it and behind it."""
    for seed in range(100):
        line = made_up_line(seed + 1000)
        asking = [[call] + SHOWN + HELD for call in line]
        given = asked(*sum(asking, []))
        size = 1 + len(SHOWN) + len(HELD)
        parts = [given[at:at + size] for at in range(0, len(given), size)]
        told = [(call, part[0], part[1:1 + len(SHOWN)], part[1 + len(SHOWN):]) for call, part in zip(line, parts)]
        yield seed, told


class WhatHolds(unittest.TestCase):
    @classmethod
    def setUpClass(cls):
        cls.lines = list(shown_lines())

    def each_change(self):
        """Each call that isn't the first, its answer, and what was shown ahead of it and behind it."""
        for seed, told in self.lines:
            for (_, _, ahead, _), (call, answer, behind, _) in zip(told, told[1:]):
                yield (seed, call), call, answer, ahead, behind

    def test_a_once_even_each_step_makes_all_have_more(self):
        seen = set()
        for where, call, answer, ahead, behind in self.each_change():
            if NAMES[call[0]] == "step" and answer[0] >= 0 and ahead[2][2] == 1:
                self.assertLess(ahead[0][-1], behind[0][-1], where)
                seen.add((call[1], ahead[2][0]))
        self.assertEqual({way for way, _ in seen}, {0, 1, 2})
        self.assertEqual({n for _, n in seen}, {2, 3, 4, 5})

    def test_a_once_even_every_run_ends(self):
        for seed, told in self.lines[:40]:
            line = [call for call, _, _, _ in told]
            for answer in asked(*line, even(), run(0), run(1), run(2))[-3:]:
                self.assertEqual(answer[1], 1, seed)
            for answer in asked(*line, even(), rounds(0), rounds(1), rounds(2))[-3:]:
                self.assertEqual(answer[1:], [1, 0], seed)

    def test_b_welcome_and_let_go_nobody_has_less(self):
        seen = 0
        for where, call, answer, ahead, behind in self.each_change():
            if (call == step(2) and answer[0] >= 0) or (NAMES[call[0]] == "go" and answer[0] == 3):
                who = answer[0] if call == step(2) else call[1]
                self.assertTrue(all(x <= y for x, y in zip(ahead[0][1:-1], behind[0][1:-1])), where)
                self.assertLess(ahead[0][who + 1], behind[0][who + 1], where)
                seen += 1
        self.assertGreater(seen, 50)

    def test_c_what_holds_is_beaten_by_nothing_and_no_set_would_leave(self):
        seen = set()
        for seed, told in self.lines:
            for _, _, _, (held, held_weakly, sets, sets_weakly, by) in told:
                self.assertEqual(held == [1], sets == [0], seed)
                self.assertEqual(held_weakly == [1], sets_weakly == [0], seed)
                self.assertLessEqual(held_weakly, held, seed)
                if held_weakly == [1]:
                    self.assertEqual(by, [-33], seed)
                seen.add((held[0], held_weakly[0], by == [-33]))
        self.assertEqual(len(seen), 5)

    def test_d_of_less_strict_kinds_there_are_as_many_or_more(self):
        for seed, told in self.lines:
            for size in (30, 60, 101):
                line = [call for call, _, _, _ in told[:size]]
                count, way_0, way_1, way_2, held, held_weakly = asked(*line, kinds())[-1]
                self.assertTrue(way_0 <= way_1 <= way_2 <= count, seed)
                self.assertTrue(held_weakly <= held <= count, seed)
                self.assertGreaterEqual(way_2, 1, seed)

    def test_e_taken_back_all_is_as_it_was(self):
        deepest = 0
        for seed, told in self.lines:
            past = []
            ahead = None
            for call, answer, behind, _ in told:
                name = NAMES[call[0]]
                if name == "begin" and answer == [0]:
                    past = []
                elif name == "back" and answer[0] >= 0:
                    self.assertEqual(behind, past.pop(), (seed, call))
                    self.assertEqual(answer, [len(past)], (seed, call))
                elif name in CHANGES and answer[0] >= 0:
                    past = (past + [ahead])[-10:]
                    # Its count of changes to take back can be lower when it is taken back.
                    past = [shown[:2] + [shown[2][:3] + [at]] + shown[3:] for at, shown in enumerate(past)]
                else:
                    self.assertEqual(behind, ahead, (seed, call))
                self.assertEqual(behind[2][3], len(past), (seed, call))
                deepest = max(deepest, len(past))
                ahead = behind
        self.assertEqual(deepest, 10)


if __name__ == "__main__":
    unittest.main()
