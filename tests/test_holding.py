"""Point 4: holds, firm, perfect, kinds."""

import unittest
from itertools import product

from tests.helper import (
    GREATEST, RING, alike, asked, be, begin, firm, holds, kinds, last, leavers, like, perfect, row, rows,
)


class Holds(unittest.TestCase):
    def test_together_and_apart(self):
        both = [begin(2), like(0, 1, 1), like(1, 0, 1)]
        self.assertEqual(asked(*both, holds(0), holds(1))[-2:], [[0], [0]])
        self.assertEqual(asked(*both, be([0, 0]), holds(0), holds(1))[-2:], [[1], [1]])

    def test_left_weakly_alone(self):
        one = [begin(2), like(0, 1, 1)]
        self.assertEqual(asked(*one, holds(0), holds(1))[-2:], [[1], [0]])
        self.assertEqual(asked(*one, be([0, 0]), holds(0), holds(1))[-2:], [[1], [1]])

    def test_left_by_one_person(self):
        calls = [begin(3), like(2, 0, -1), be([0, 1, 0])]
        self.assertEqual(asked(*calls, holds(0), holds(1))[-2:], [[0], [0]])
        self.assertEqual(asked(*calls, like(2, 0, 0), holds(0), holds(1))[-2:], [[1], [1]])

    def test_left_by_all(self):
        calls = alike(5, 0) + [like(i, (i + 1) % 5, 1) for i in range(5)]
        self.assertEqual(asked(*calls, holds(0), leavers(0))[-2:], [[0], [1, 31]])
        self.assertEqual(asked(*calls, be([0] * 5), holds(0), holds(1))[-2:], [[1], [1]])

    def test_a_set_that_is_a_group_already(self):
        table = [[0, 9, 0], [9, 0, 0], [0, 0, 0]]
        self.assertEqual(asked(begin(3), *rows(table), be([0, 0, 1]), holds(0), holds(1))[-2:], [[1], [1]])

    def test_nothing_holds(self):
        for groups in product(range(5), repeat=5):
            self.assertEqual(asked(*RING, be(list(groups)), holds(0), holds(1))[-2:], [[0], [0]])

    def test_all_alone_and_one_person(self):
        for n in range(1, 6):
            self.assertEqual(asked(begin(n), holds(0), holds(1), be([0] * n), holds(0), holds(1)), [[0]] + [[1]] * 5)
            self.assertEqual(asked(*alike(n, -20), holds(0), holds(1))[-2:], [[1], [1]])

    def test_greatest_and_least(self):
        for n in range(2, 6):
            self.assertEqual(asked(*alike(n, 20), holds(0), holds(1))[-2:], [[0], [0]])
            self.assertEqual(asked(*alike(n, 20), be([0] * n), holds(0), holds(1))[-2:], [[1], [1]])
            self.assertEqual(asked(*alike(n, -20), be([0] * n), holds(0), holds(1))[-2:], [[0], [0]])

    def test_no_such_way_to_leave(self):
        for w in (2, 3, GREATEST):
            for n in range(1, 6):
                self.assertEqual(last(begin(n), holds(w)), [-22])


class Firm(unittest.TestCase):
    def test_one_person(self):
        self.assertEqual(last(begin(1), firm()), [1, 1])

    def test_all_sets(self):
        for n in range(1, 6):
            every = list(range(1, 2 ** n))
            for x in (0, 1, 20):
                self.assertEqual(last(*alike(n, x), firm()), [len(every)] + every)

    def test_sets_of_one_person_always_are(self):
        for n in range(1, 6):
            self.assertEqual(last(*alike(n, -20), firm()), [n] + [2 ** i for i in range(n)])

    def test_one_would_be_better_alone(self):
        self.assertEqual(last(begin(3), like(0, 1, -1), firm()), [5, 1, 2, 4, 5, 6])

    def test_each_of_the_lesser_set_must_have_more(self):
        calls = [begin(3), row(0, [0, 2, -1]), row(1, [1, 0, 0])]
        self.assertEqual(last(*calls, firm()), [6, 1, 2, 3, 4, 6, 7])
        self.assertEqual(last(*calls, like(1, 2, -1), firm()), [4, 1, 2, 3, 4])

    def test_the_set_of_all_people(self):
        # Together all have something; 0 to 3 would each have more without 4.
        table = [[0, 1, 1, 1, -1], [1, 0, 1, 1, -1], [1, 1, 0, 1, -1], [1, 1, 1, 0, -1], [1, 1, 1, 1, 0]]
        self.assertNotIn(31, last(begin(5), *rows(table), firm())[1:])
        self.assertIn(31, last(begin(5), *rows(table), like(0, 4, 0), like(1, 4, 0), like(2, 4, 0), firm())[1:])
        self.assertIn(15, last(begin(5), *rows(table), firm())[1:])

    def test_a_lesser_set_that_is_no_part_of_it_does_not_count(self):
        # 0 and 2 like each other much, but 2 isn't among 0 and 1.
        calls = [begin(3), row(0, [0, 1, 20]), row(2, [20, 0, 0])]
        self.assertIn(3, last(*calls, firm())[1:])

    def test_whatever_the_groups_are(self):
        calls = [begin(3), like(0, 1, -1)]
        for groups in product(range(3), repeat=3):
            self.assertEqual(last(*calls, be(list(groups)), firm()), [5, 1, 2, 4, 5, 6])


class Perfect(unittest.TestCase):
    def test_one_person(self):
        self.assertEqual(last(begin(1), perfect()), [1, 0])

    def test_of_like_ones_the_first(self):
        for n in range(1, 6):
            self.assertEqual(last(begin(n), perfect()), [1] + [0] * n)

    def test_the_only_one(self):
        calls = [begin(3), like(0, 1, 5), like(1, 0, 3), like(2, 0, -1)]
        self.assertEqual(last(*calls, perfect()), [2, 0, 0, 1])
        for n in range(2, 6):
            self.assertEqual(last(*alike(n, -20), perfect()), [n] + list(range(n)))
            self.assertEqual(last(*alike(n, 20), perfect()), [1] + [0] * n)

    def test_some_are_and_the_first_is_told(self):
        # 0 is with 3 and not with 1; 2 may be anywhere.
        calls = [begin(4), like(0, 3, 5), like(3, 0, 5), like(0, 1, -1)]
        self.assertEqual(last(*calls, perfect()), [2, 0, 1, 0, 0])
        self.assertEqual(last(*calls, like(0, 2, -1), perfect()), [2, 0, 1, 1, 0])
        self.assertEqual(last(*calls, like(0, 2, -1), like(1, 2, -1), perfect()), [3, 0, 1, 2, 0])

    def test_as_much_is_needed_by_each(self):
        calls = [begin(3), row(0, [0, 4, 3])]
        self.assertEqual(last(*calls, perfect()), [1, 0, 0, 0])
        self.assertEqual(last(*calls, like(1, 2, -1), perfect()), [-33])

    def test_none_is(self):
        self.assertEqual(last(begin(2), like(0, 1, 1), like(1, 0, -1), perfect()), [-33])
        self.assertEqual(last(*RING, perfect()), [-33])

    def test_whatever_the_groups_are(self):
        calls = [begin(3), like(0, 1, 5), like(1, 0, 3), like(2, 0, -1)]
        for groups in product(range(3), repeat=3):
            self.assertEqual(last(*calls, be(list(groups)), perfect()), [2, 0, 0, 1])


class Kinds(unittest.TestCase):
    def test_how_many_ways_there_are(self):
        for n, count in ((1, 1), (2, 2), (3, 5), (4, 15), (5, 52)):
            self.assertEqual(last(begin(n), kinds()), [count] * 6)

    def test_one_goes_after_another_who_goes_away(self):
        # Apart 0 would go to 1, where they aren't welcome; together 1 would go, and 0 doesn't let them.
        self.assertEqual(last(begin(2), like(0, 1, 1), like(1, 0, -1), kinds()), [2, 0, 1, 2, 1, 1])

    def test_one_does_not_mind(self):
        self.assertEqual(last(begin(2), like(0, 1, 1), kinds()), [2, 1, 1, 1, 2, 1])

    def test_three_people(self):
        self.assertEqual(last(begin(3), row(0, [0, 4, -3]), like(1, 0, 2), kinds()), [5, 2, 2, 2, 2, 1])

    def test_all_like_all_and_none_like_any(self):
        for n, count in ((2, 2), (3, 5), (4, 15), (5, 52)):
            self.assertEqual(last(*alike(n, -20), kinds())[3:], [1, 1, 1])
            self.assertEqual(last(*alike(n, -20), kinds())[:3], [count, 1, 1])
            self.assertEqual(last(*alike(n, 20), kinds())[4:], [1, 1])

    def test_groups_of_like_size_that_nobody_leaves(self):
        # Two and two: each would have as much alone with the other two, less one, but has more there.
        self.assertEqual(last(*alike(2, 20), kinds()), [2, 1, 1, 1, 1, 1])
        self.assertEqual(last(*alike(4, 1), kinds()), [15, 1, 1, 4, 1, 1])

    def test_nothing_holds(self):
        self.assertEqual(last(*RING, kinds())[4:], [0, 0])
        self.assertEqual(last(*RING, kinds())[0], 52)

    def test_something_holds_but_not_weakly(self):
        calls = [begin(3), *rows([[0, 1, 0], [0, 0, 0], [-1, 1, 0]])]
        held = [asked(*calls, be(groups), holds(0), holds(1))[-2:]
                for groups in ([0, 0, 0], [0, 0, 1], [0, 1, 0], [0, 1, 1], [0, 1, 2])]
        self.assertEqual(last(*calls, kinds())[4:], [sum(pair[0][0] for pair in held), 0])
        self.assertTrue(all(pair[1] == [0] for pair in held))
        self.assertGreater(last(*calls, kinds())[4], 0)

    def test_whatever_the_groups_are(self):
        calls = [begin(3), row(0, [0, 4, -3]), like(1, 0, 2)]
        for groups in product(range(3), repeat=3):
            self.assertEqual(last(*calls, be(list(groups)), kinds()), [5, 2, 2, 2, 2, 1])


if __name__ == "__main__":
    unittest.main()
