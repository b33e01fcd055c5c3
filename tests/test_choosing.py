"""Point 5: most, among, beaten, envies."""

import unittest
from itertools import product

from tests.helper import (
    GREATEST, RING, alike, all_behind, among, asked, be, beaten, begin, envies, kinds, last, like, most, row, rows,
)

# Apart 0 goes to 1, who isn't glad of it and goes away: by way 0 nothing is at rest.
AFTER = [begin(2), like(0, 1, 1), like(1, 0, -1)]


class Most(unittest.TestCase):
    def test_all_together_and_the_least(self):
        calls = [begin(3), like(0, 1, 10), like(1, 0, -2)]
        self.assertEqual(last(*calls, most(0)), [1, 0, 0, 0, 8])
        self.assertEqual(last(*calls, most(1)), [2, 0, 1, 0, 0])
        self.assertEqual(last(*calls, like(2, 0, -1), most(0)), [2, 0, 0, 1, 8])
        self.assertEqual(last(*calls, like(2, 0, -1), most(1)), [2, 0, 1, 1, 0])

    def test_who_has_least_has_most(self):
        # 0 and 1 would have much together; with 2 there each has something.
        calls = [begin(3), *rows([[0, 20, 1], [20, 0, -15], [3, 3, 0]])]
        self.assertEqual(last(*calls, most(0)), [2, 0, 0, 1, 40])
        self.assertEqual(last(*calls, most(1)), [1, 0, 0, 0, 5])

    def test_of_like_ones_the_first(self):
        for n in range(1, 6):
            self.assertEqual(last(begin(n), most(0)), [1] + [0] * n + [0])
            self.assertEqual(last(begin(n), most(1)), [1] + [0] * n + [0])
        # 0 and 1 apart, or 0 and 2 apart, or all three: the first leaves the lesser numbers together.
        calls = [begin(4), like(0, 1, -1)]
        self.assertEqual(last(*calls, most(0)), [2, 0, 1, 0, 0, 0])
        self.assertEqual(last(*calls, most(1)), [2, 0, 1, 0, 0, 0])

    def test_edges(self):
        self.assertEqual(last(begin(1), most(0)), [1, 0, 0])
        self.assertEqual(last(begin(1), most(1)), [1, 0, 0])
        for n in range(2, 6):
            self.assertEqual(last(*alike(n, 20), most(0)), [1] + [0] * n + [20 * n * (n - 1)])
            self.assertEqual(last(*alike(n, 20), most(1)), [1] + [0] * n + [20 * (n - 1)])
            self.assertEqual(last(*alike(n, -20), most(0)), [n] + list(range(n)) + [0])
            self.assertEqual(last(*alike(n, -20), most(1)), [n] + list(range(n)) + [0])

    def test_whatever_the_groups_are(self):
        calls = [begin(3), like(0, 1, 10), like(1, 0, -2)]
        for groups in product(range(3), repeat=3):
            self.assertEqual(asked(*calls, be(list(groups)), most(0), most(1))[-2:], [[1, 0, 0, 0, 8], [2, 0, 1, 0, 0]])

    def test_no_such_best(self):
        for k in (2, 3, GREATEST):
            for n in range(1, 6):
                self.assertEqual(last(begin(n), most(k)), [-22])


class Among(unittest.TestCase):
    def test_of_each_kind(self):
        # Of these 000 and 001 are at rest by each way and hold; only 001 holds even against weak leaving.
        calls = [begin(3), row(0, [0, 4, -3]), like(1, 0, 2)]
        self.assertEqual([last(*calls, among(0, w)) for w in range(5)], [[2, 0, 0, 1, 6]] * 5)
        self.assertEqual([last(*calls, among(1, w)) for w in range(5)], [[1, 0, 0, 0, 0]] * 4 + [[2, 0, 0, 1, 0]])

    def test_each_kind_has_its_own(self):
        # Together is at rest by way 2 alone, apart by way 1 too.
        self.assertEqual([last(*AFTER, like(0, 1, 3), among(0, w)) for w in range(5)],
                         [[-33], [2, 0, 1, 0], [1, 0, 0, 2], [2, 0, 1, 0], [2, 0, 1, 0]])
        self.assertEqual([last(*AFTER, like(0, 1, 3), among(1, w)) for w in range(5)], [[-33]] + [[2, 0, 1, 0]] * 4)

    def test_the_best_is_not_always_among_them(self):
        # All have most together in one group, which 1 would leave.
        calls = [begin(2), like(0, 1, 20), like(1, 0, -1)]
        self.assertEqual(asked(*calls, most(0), among(0, 1), among(0, 3))[-3:],
                         [[1, 0, 0, 19], [2, 0, 1, 0], [2, 0, 1, 0]])

    def test_of_like_ones_the_first(self):
        for n in range(1, 6):
            for k, w in product(range(2), range(5)):
                self.assertEqual(last(begin(n), among(k, w)), [1] + [0] * n + [0])
        # By way 2 two and two are at rest too, which have less; together is the first of those that have most.
        self.assertEqual(last(*alike(4, 1), among(0, 2)), [1, 0, 0, 0, 0, 12])
        calls = [begin(4), like(0, 1, -1), like(0, 2, -1)]
        self.assertEqual(last(*calls, among(0, 4)), [2, 0, 1, 1, 0, 0])

    def test_edges(self):
        for k, w in product(range(2), range(5)):
            self.assertEqual(last(begin(1), among(k, w)), [1, 0, 0])
            self.assertEqual(last(*alike(5, 20), among(k, w)), [1, 0, 0, 0, 0, 0, (400, 80)[k]])
            self.assertEqual(last(*alike(5, -20), among(k, w)), [5, 0, 1, 2, 3, 4, 0])

    def test_none_of_the_kind(self):
        self.assertEqual(asked(*AFTER, among(0, 0), among(1, 0))[-2:], [[-33], [-33]])
        self.assertEqual(asked(*RING, among(0, 3), among(1, 3), among(0, 4), among(1, 4))[-4:], [[-33]] * 4)
        calls = [begin(3), *rows([[0, 1, 0], [0, 0, 0], [-1, 1, 0]])]
        self.assertEqual(last(*calls, among(0, 4)), [-33])
        self.assertGreater(last(*calls, among(0, 3))[0], 0)

    def test_wrong(self):
        for k, w in ((2, 1), (0, 5), (2, 5), (GREATEST, 0), (1, GREATEST), (GREATEST, GREATEST)):
            self.assertEqual(last(*AFTER, among(k, w)), [-22])
            self.assertEqual(last(begin(1), among(k, w)), [-22])

    def test_wrong_is_told_ahead_of_none(self):
        for k in (2, GREATEST):
            self.assertEqual(last(*AFTER, among(k, 0)), [-22])
            self.assertEqual(last(*RING, among(k, 3)), [-22])
            self.assertEqual(last(*RING, among(k, 4)), [-22])

    def test_all_stays_as_it_is(self):
        for k, w in product(range(2), range(5)):
            self.assertEqual(all_behind(2, *AFTER, be([0, 0]), among(k, w)), all_behind(2, *AFTER, be([0, 0])))

    def test_there_are_none_just_where_kinds_counts_none(self):
        for calls in (AFTER, RING, alike(4, 1)):
            counts = last(*calls, kinds())[1:]
            for w in range(5):
                self.assertEqual(last(*calls, among(0, w)) == [-33], counts[w] == 0)


class Beaten(unittest.TestCase):
    def test_by_another(self):
        both = [begin(2), like(0, 1, 1), like(1, 0, 1)]
        self.assertEqual(last(*both, beaten()), [1, 0, 0])
        self.assertEqual(last(*both, be([0, 0]), beaten()), [-33])

    def test_one_who_has_more_is_enough(self):
        self.assertEqual(last(begin(2), like(0, 1, 1), beaten()), [1, 0, 0])
        self.assertEqual(last(begin(2), like(1, 0, -1), be([0, 0]), beaten()), [2, 0, 1])

    def test_nobody_may_have_less(self):
        self.assertEqual(last(*AFTER, beaten()), [-33])
        self.assertEqual(last(*AFTER, be([0, 0]), beaten()), [-33])
        self.assertEqual(last(begin(2), like(0, 1, 20), like(1, 0, -1), beaten()), [-33])

    def test_the_first_that_does(self):
        calls = [begin(3), like(0, 1, 1), like(1, 0, 1)]
        self.assertEqual(last(*calls, beaten()), [1, 0, 0, 0])
        self.assertEqual(last(*calls, like(2, 0, -1), beaten()), [2, 0, 0, 1])
        # The first isn't the best: with 3 person 0 would have more than with 1, and nobody less either.
        calls = [begin(4), row(0, [0, 1, 0, 5]), like(3, 1, -1), like(2, 0, -1)]
        self.assertEqual(last(*calls, beaten()), [2, 0, 0, 1, 1])
        self.assertEqual(last(*calls, be([0, 0, 1, 1]), beaten()), [2, 0, 1, 1, 0])

    def test_by_nothing(self):
        for n in range(1, 6):
            self.assertEqual(last(begin(n), beaten()), [-33])
            self.assertEqual(last(begin(n), be([0] * n), beaten()), [-33])
            self.assertEqual(last(*alike(n, -20), beaten()), [-33])
            self.assertEqual(last(*alike(n, 20), be([0] * n), beaten()), [-33])

    def test_greatest_and_least(self):
        for n in range(2, 6):
            self.assertEqual(last(*alike(n, 20), beaten()), [1] + [0] * n)
            self.assertEqual(last(*alike(n, -20), be([0] * n), beaten())[0], 2)
        self.assertEqual(last(*alike(5, -20), be([0] * 5), beaten()), [2, 0, 0, 0, 0, 1])

    def test_all_stays_as_it_is(self):
        calls = [begin(2), like(0, 1, 1), like(1, 0, 1)]
        self.assertEqual(all_behind(2, *calls, beaten()), all_behind(2, *calls))


class Envies(unittest.TestCase):
    def test_nobody(self):
        for n in range(1, 6):
            self.assertEqual(last(begin(n), envies()), [0])
            self.assertEqual(last(begin(n), be([0] * n), envies()), [0])
            self.assertEqual(last(*alike(n, 20), envies()), [0])
            self.assertEqual(last(*alike(n, -20), envies()), [0])

    def test_people_of_the_same_group(self):
        for x in (-20, 20):
            self.assertEqual(last(*alike(5, x), be([0] * 5), envies()), [0])
        self.assertEqual(last(begin(3), row(0, [0, -5, 9]), be([0, 0, 0]), envies()), [0])

    def test_one_alone_who_is_envied(self):
        calls = [begin(3), like(0, 1, -1), be([0, 0, 1])]
        self.assertEqual(last(*calls, envies()), [1, 0, 2])
        self.assertEqual(last(*calls, like(0, 1, 0), envies()), [0])
        # What the one who is alone is worth doesn't count: they'd be gone.
        self.assertEqual(last(*calls, like(0, 2, -20), envies()), [1, 0, 2])
        self.assertEqual(last(begin(2), like(0, 1, 20), envies()), [0])

    def test_without_them(self):
        calls = [begin(4), row(0, [0, 1, -9, 5]), be([0, 0, 1, 1])]
        self.assertEqual(last(*calls, envies()), [1, 0, 2])
        self.assertEqual(last(*calls, like(0, 2, 2), envies()), [2, 0, 2, 0, 3])
        self.assertEqual(last(*calls, like(0, 3, 1), envies()), [0])

    def test_one_who_is_alone_envies(self):
        self.assertEqual(last(begin(3), like(1, 2, 3), be([0, 1, 0]), envies()), [1, 1, 0])

    def test_by_the_first_and_by_the_second(self):
        table = [[0, -1, 0, 0], [-1, 0, 0, 0], [9, 1, 0, -1], [1, 9, -1, 0]]
        self.assertEqual(last(begin(4), *rows(table), be([0, 0, 1, 1]), envies()),
                         [8, 0, 2, 0, 3, 1, 2, 1, 3, 2, 0, 2, 1, 3, 0, 3, 1])

    def test_most_pairs(self):
        table = [[0 if i == j else (20 if (i + j) % 2 else -20) for j in range(5)] for i in range(5)]
        self.assertEqual(last(begin(5), *rows(table), be([0, 1, 0, 1, 0]), envies()),
                         [12, 0, 1, 0, 3, 1, 0, 1, 2, 1, 4, 2, 1, 2, 3, 3, 0, 3, 2, 3, 4, 4, 1, 4, 3])

    def test_all_stays_as_it_is(self):
        calls = [begin(3), like(0, 1, -1), be([0, 0, 1])]
        self.assertEqual(all_behind(3, *calls, envies()), all_behind(3, *calls))


if __name__ == "__main__":
    unittest.main()
