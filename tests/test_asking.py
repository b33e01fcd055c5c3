"""Points 3 and 4: worths, moves, best, rests, leavers."""

import unittest
from itertools import product

from tests.helper import GREATEST, RING, asked, be, begin, best, last, leavers, like, moves, rests, row, rows, worths


class Worths(unittest.TestCase):
    def test_what_each_has_and_all_together(self):
        calls = [begin(4), *rows([[0, 1, 2, 3], [4, 0, 5, 6], [-7, 8, 0, 9], [10, 11, -12, 0]])]
        self.assertEqual(last(*calls, worths()), [0, 0, 0, 0, 0, 0])
        self.assertEqual(last(*calls, be([0, 0, 0, 0]), worths()), [0, 6, 15, 10, 9, 40])
        self.assertEqual(last(*calls, be([0, 1, 0, 1]), worths()), [0, 2, 6, -7, 11, 12])
        self.assertEqual(last(*calls, be([0, 1, 2, 2]), worths()), [0, 0, 0, 9, -12, -3])

    def test_edges(self):
        self.assertEqual(last(begin(1), worths()), [0, 0, 0])
        for x in (-20, 20):
            table = [[0 if i == j else x for j in range(5)] for i in range(5)]
            self.assertEqual(last(begin(5), *rows(table), be([0] * 5), worths()), [0] + [4 * x] * 5 + [20 * x])


class Moves(unittest.TestCase):
    def test_by_who_and_by_where(self):
        calls = [begin(4), row(1, [-2, 0, 3, -1]), row(0, [0, -1, 5, 0]), be([0, 0, 1, 2])]
        self.assertEqual(last(*calls, moves(0)), [6, 0, 1, 0, 2, 0, 3, 1, 1, 1, 2, 1, 3])

    def test_the_three_ways(self):
        # Person 2 doesn't want person 0 there; person 1, whom they would leave, doesn't mind, and at last does.
        calls = [begin(4), row(0, [0, -1, 5, 4]), like(2, 0, -1), be([0, 0, 1, 2])]
        self.assertEqual(last(*calls, moves(0)), [3, 0, 1, 0, 2, 0, 3])
        self.assertEqual(last(*calls, moves(1)), [2, 0, 2, 0, 3])
        self.assertEqual(last(*calls, moves(2)), [2, 0, 2, 0, 3])
        self.assertEqual(last(*calls, like(1, 0, 1), moves(1)), [2, 0, 2, 0, 3])
        self.assertEqual(last(*calls, like(1, 0, 1), moves(2)), [0])

    def test_as_good_is_not_better(self):
        self.assertEqual(last(begin(3), row(0, [0, 2, 2]), be([0, 0, 1]), moves(0)), [0])
        self.assertEqual(last(begin(3), row(0, [0, 2, 3]), be([0, 0, 1]), moves(0)), [1, 0, 1])

    def test_all_alone_nobody_goes_to_be_alone(self):
        self.assertEqual(last(begin(3), *rows([[0, -1, -1], [-1, 0, -1], [-1, -1, 0]]), moves(0)), [0])
        self.assertEqual(last(begin(2), like(0, 1, 1), like(1, 0, 1), moves(2)), [2, 0, 1, 1, 0])

    def test_all_together_one_goes_to_be_alone(self):
        self.assertEqual(last(begin(3), like(1, 0, -1), be([0, 0, 0]), moves(0)), [1, 1, 1])

    def test_most_moves(self):
        table = [[0, -20, 1, 1, 1], [-20, 0, 1, 1, 1], [0] * 5, [0] * 5, [0] * 5]
        self.assertEqual(last(begin(5), *rows(table), be([0, 0, 1, 2, 3]), moves(2)),
                         [8, 0, 1, 0, 2, 0, 3, 0, 4, 1, 1, 1, 2, 1, 3, 1, 4])

    def test_one_person(self):
        self.assertEqual(asked(begin(1), moves(0), moves(1), moves(2)), [[0]] * 4)

    def test_no_such_way(self):
        for w in (3, 4, GREATEST):
            self.assertEqual(last(begin(2), moves(w)), [-22])


class Best(unittest.TestCase):
    def test_where_they_have_most(self):
        calls = [begin(5), row(0, [0, 3, 4, 8, -2]), be([0, 0, 1, 2, 2])]
        self.assertEqual(last(*calls, best(0)), [2, 6])
        self.assertEqual(last(*calls, like(0, 2, 7), best(0)), [1, 7])

    def test_their_own_if_none_is_better(self):
        calls = [begin(4), row(3, [5, 5, 5, 0]), be([0, 1, 2, 2])]
        self.assertEqual(last(*calls, best(3)), [2, 5])
        self.assertEqual(last(begin(3), best(2)), [2, 0])
        self.assertEqual(last(begin(3), row(2, [-1, -1, 0]), best(2)), [2, 0])
        self.assertEqual(last(begin(3), be([0, 1, 0]), best(2)), [0, 0])

    def test_of_like_ones_the_least(self):
        self.assertEqual(last(begin(4), row(3, [4, 5, 5, 0]), best(3)), [1, 5])
        self.assertEqual(last(begin(3), row(0, [0, -1, 0]), be([0, 0, 1]), best(0)), [1, 0])

    def test_alone(self):
        self.assertEqual(last(begin(3), row(0, [0, -5, -6]), be([0, 0, 1]), best(0)), [2, 0])
        self.assertEqual(last(begin(3), row(0, [0, -5, -6]), be([0, 0, 0]), best(0)), [1, 0])

    def test_where_they_are_not_welcome(self):
        self.assertEqual(last(begin(2), like(0, 1, 5), like(1, 0, -5), best(0)), [1, 5])

    def test_one_person(self):
        self.assertEqual(last(begin(1), best(0)), [0, 0])

    def test_nobody_there(self):
        for i in (3, GREATEST):
            self.assertEqual(last(begin(3), best(i)), [-2])


class Rests(unittest.TestCase):
    def test_the_three_ways(self):
        # Who goes after whom whom nobody wants: at rest by the ways that ask.
        calls = [begin(3), like(0, 1, 5), like(1, 0, -1)]
        self.assertEqual([last(*calls, rests(w)) for w in (0, 1, 2)], [[0], [1], [1]])
        calls = [begin(3), row(0, [0, -5, 0]), like(1, 0, 5), be([0, 0, 1])]
        self.assertEqual([last(*calls, rests(w)) for w in (0, 1, 2)], [[0], [0], [1]])
        self.assertEqual([last(*calls, like(1, 0, 0), rests(w)) for w in (0, 1, 2)], [[0], [0], [0]])

    def test_all_alone_and_one_person(self):
        for n in range(1, 6):
            self.assertEqual(asked(begin(n), rests(0), rests(1), rests(2)), [[0], [1], [1], [1]])

    def test_no_such_way(self):
        for w in (3, 4, GREATEST):
            self.assertEqual(last(begin(2), rests(w)), [-22])


class Leavers(unittest.TestCase):
    def test_wholly_and_weakly(self):
        calls = [begin(3), row(0, [0, 2, -1]), row(1, [1, 0, 0]), row(2, [0, -1, 0]), be([0, 0, 0])]
        self.assertEqual(last(*calls, leavers(0)), [1, 4])
        self.assertEqual(last(*calls, leavers(1)), [2, 3, 4])

    def test_rising(self):
        table = [[0, 1, 1, 1, 1], [1, 0, 1, 1, 1], [1, 1, 0, 1, 1], [1, 1, 1, 0, 1], [1, 1, 1, 1, 0]]
        several = [s for s in range(1, 32) if bin(s).count("1") > 1]
        self.assertEqual(last(begin(5), *rows(table), leavers(0)), [26] + several)
        self.assertEqual(last(begin(5), *rows(table), leavers(1)), [26] + several)

    def test_who_would_leave_would_leave_weakly_too(self):
        calls = [begin(2), like(0, 1, 1), like(1, 0, 1)]
        self.assertEqual(asked(*calls, leavers(0), leavers(1))[-2:], [[1, 3], [1, 3]])

    def test_one_that_has_more_is_enough_weakly(self):
        calls = [begin(3), like(0, 1, 1)]
        self.assertEqual(asked(*calls, leavers(0), leavers(1))[-2:], [[0], [2, 3, 7]])

    def test_alone(self):
        calls = [begin(3), like(1, 0, -1), be([0, 0, 1])]
        self.assertEqual(asked(*calls, leavers(0), leavers(1))[-2:], [[1, 2], [2, 2, 6]])
        calls = [begin(2), like(0, 1, -1), be([0, 0])]
        self.assertEqual(asked(*calls, leavers(0), leavers(1))[-2:], [[1, 1], [1, 1]])

    def test_a_set_that_is_a_group_already(self):
        table = [[0, 9, 0], [9, 0, 0], [0, 0, 0]]
        self.assertEqual(asked(begin(3), *rows(table), be([0, 0, 1]), leavers(0), leavers(1))[-2:], [[0], [0]])

    def test_nothing_holds(self):
        for groups in product(range(5), repeat=5):
            self.assertGreater(last(*RING, be(list(groups)), leavers(0))[0], 0)
        self.assertEqual(last(*RING, be([0, 0, 1, 1, 2]), leavers(0)), [1, 24])
        self.assertEqual(last(*RING, leavers(0)), [5, 3, 6, 12, 17, 24])

    def test_nothing_holds_weakly(self):
        ahead = [begin(3), *rows([[0, 1, 0], [0, 0, 0], [-1, 1, 0]])]
        for groups in product(range(3), repeat=3):
            self.assertGreater(last(*ahead, be(list(groups)), leavers(1))[0], 0)

    def test_all_alone_and_one_person(self):
        for n in range(1, 6):
            self.assertEqual(asked(begin(n), leavers(0), leavers(1)), [[0]] * 3)

    def test_no_such_way_to_leave(self):
        for w in (2, 3, GREATEST):
            self.assertEqual(last(begin(2), leavers(w)), [-22])


if __name__ == "__main__":
    unittest.main()
