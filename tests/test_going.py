"""Point 2: go, leave, step."""

import unittest

from tests.helper import (
    GREATEST, all_behind, asked, back, be, begin, go, groups_behind, last, leave, like, moves, row, rows, step, worths,
)


class Go(unittest.TestCase):
    def test_the_ways_by_which_they_may(self):
        # Person 0 leaves 1 and goes to 2; who has what by it is told by the two numbers.
        for to_left, to_there, answer in ((0, 0, 3), (-1, 1, 3), (1, 0, 2), (1, 1, 2), (0, -1, 1), (1, -1, 1)):
            calls = [begin(3), row(0, [0, 2, 5]), like(1, 0, to_left), like(2, 0, to_there), be([0, 0, 1])]
            self.assertEqual(last(*calls, go(0, 1)), [answer, 3])

    def test_where_they_would_rather_not(self):
        calls = [begin(3), row(0, [0, 2, 2]), like(2, 0, 5), like(1, 0, -5), be([0, 0, 1])]
        self.assertEqual(last(*calls, go(0, 1)), [0, 0])
        self.assertEqual(last(*calls, go(0, 2)), [0, -2])

    def test_how_much_more(self):
        calls = [begin(5), row(0, [0, 20, 20, -20, -20]), be([0, 1, 1, 0, 0])]
        self.assertEqual(last(*calls, go(0, 1)), [3, 80])
        self.assertEqual(last(*calls, go(0, 2)), [3, 40])
        self.assertEqual(last(*calls, go(0, 1), go(0, 1)), [0, -80])

    def test_alone_one_is_always_welcome(self):
        calls = [begin(3), row(0, [0, -1, -1]), like(1, 0, -3), like(2, 0, -3), be([0, 0, 0])]
        self.assertEqual(last(*calls, go(0, 1)), [3, 2])
        self.assertEqual(last(*calls, like(2, 0, 1), go(0, 1)), [2, 2])

    def test_one_of_those_there_is_enough(self):
        calls = [begin(4), row(0, [0, 5, 5, 5]), like(1, 0, 9), like(2, 0, -1), like(3, 0, 9), be([0, 1, 1, 1])]
        self.assertEqual(last(*calls, go(0, 1)), [1, 15])

    def test_one_of_those_left_is_enough(self):
        calls = [begin(4), row(0, [0, -5, -5, 0]), like(1, 0, -9), like(2, 0, 1), be([0, 0, 0, 1])]
        self.assertEqual(last(*calls, go(0, 1)), [2, 10])

    def test_numbered_anew(self):
        five = [begin(5), be([0, 0, 1, 1, 2])]
        for call, groups in ((go(0, 1), [0, 1, 0, 0, 2]), (go(0, 2), [0, 1, 2, 2, 0]), (go(0, 3), [0, 1, 2, 2, 3]),
                             (go(4, 0), [0, 0, 1, 1, 0]), (go(4, 1), [0, 0, 1, 1, 1]), (go(2, 3), [0, 0, 1, 2, 3]),
                             (go(1, 2), [0, 1, 2, 2, 1])):
            self.assertGreaterEqual(last(*five, call)[0], 0)
            self.assertEqual(groups_behind(5, *five, call), groups)

    def test_a_group_that_empties_is_gone(self):
        calls = [begin(3), go(0, 1), go(2, 0)]
        self.assertEqual(groups_behind(3, *calls), [0, 0, 0])
        self.assertEqual(asked(*calls, go(2, 2), go(2, 1))[-2:], [[-2], [0, 0]])

    def test_to_ones_own_group(self):
        self.assertEqual(last(begin(3), be([0, 1, 0]), go(2, 0)), [-17])
        self.assertEqual(last(begin(3), be([2, 1, 2]), go(1, 1)), [-17])
        self.assertEqual(last(begin(1), go(0, 0)), [-17])
        self.assertEqual(all_behind(3, begin(3), be([0, 1, 0]), go(2, 0)), all_behind(3, begin(3), be([0, 1, 0])))

    def test_alone_already(self):
        # The number behind all is no group's, so it isn't that of the group they're in.
        self.assertEqual(asked(begin(3), be([0, 1, 0]), go(1, 2), back(), back())[2:], [[0, 0], [1], [0]])
        self.assertEqual(groups_behind(3, begin(3), be([0, 1, 0]), go(1, 2)), [0, 1, 0])
        self.assertEqual(asked(begin(1), go(0, 1), go(0, 2)), [[0], [0, 0], [-2]])
        self.assertEqual(groups_behind(4, begin(4), go(1, 4)), [0, 1, 2, 3])

    def test_no_such_group(self):
        for k in (3, 4, GREATEST):
            self.assertEqual(last(begin(4), be([0, 0, 1, 1]), go(0, k)), [-2])
        self.assertEqual(last(begin(4), be([0, 0, 1, 1]), go(0, 2)), [0, 0])

    def test_nobody_there(self):
        for i in (4, GREATEST):
            for k in (0, 1, 2, GREATEST):
                self.assertEqual(last(begin(4), be([0, 0, 1, 1]), go(i, k)), [-2])


class Leave(unittest.TestCase):
    def test_each_has_more(self):
        calls = [begin(3), row(0, [0, 5, -1]), row(1, [1, 0, -1]), be([0, 0, 0])]
        self.assertEqual(last(*calls, leave(3)), [2])
        self.assertEqual(groups_behind(3, *calls, leave(3)), [0, 0, 1])

    def test_only_weakly(self):
        calls = [begin(3), row(0, [0, 5, -1]), row(1, [1, 0, 0]), be([0, 0, 0])]
        self.assertEqual(last(*calls, leave(3)), [1])

    def test_one_would_have_less(self):
        calls = [begin(3), row(0, [0, 5, -1]), row(1, [1, 0, 1]), be([0, 0, 0])]
        self.assertEqual(last(*calls, leave(3)), [0])
        self.assertEqual(groups_behind(3, *calls, leave(3)), [0, 0, 1])

    def test_none_would_have_more(self):
        self.assertEqual(last(begin(3), be([0, 0, 0]), leave(3)), [0])

    def test_out_of_several_groups(self):
        calls = [begin(5), be([0, 0, 1, 1, 2])]
        for s, groups in ((5, [0, 1, 0, 2, 3]), (10, [0, 1, 2, 1, 3]), (31, [0] * 5), (1, [0, 1, 2, 2, 3]),
                          (16, [0, 0, 1, 1, 2]), (24, [0, 0, 1, 2, 2]), (29, [0, 1, 0, 0, 0]), (2, [0, 1, 2, 2, 3])):
            self.assertEqual(last(*calls, leave(s)), [0])
            self.assertEqual(groups_behind(5, *calls, leave(s)), groups)

    def test_told_from_what_they_have_ahead_of_it(self):
        # Apart 0 and 1 have nothing; together both have more.
        calls = [begin(2), like(0, 1, 1), like(1, 0, 1)]
        self.assertEqual(asked(*calls, leave(3), leave(3), leave(1))[-3:], [[2], [0], [0]])

    def test_a_set_that_is_a_group_already(self):
        calls = [begin(3), like(0, 1, 7), like(1, 0, 7), be([0, 0, 1])]
        for s in (3, 4):
            self.assertEqual(asked(*calls, leave(s), back())[-2:], [[0], [3]])
            self.assertEqual(groups_behind(3, *calls, leave(s)), [0, 0, 1])

    def test_one_person(self):
        self.assertEqual(asked(begin(1), leave(1), leave(0), leave(2)), [[0], [0], [-22], [-22]])

    def test_no_set_of_people(self):
        for n in range(1, 6):
            for s in (0, 1 << n, (1 << n) + 1, GREATEST):
                self.assertEqual(last(begin(n), leave(s)), [-22])
            self.assertEqual(last(begin(n), leave((1 << n) - 1)), [0])
        self.assertEqual(all_behind(2, begin(2), leave(4)), all_behind(2, begin(2)))


class Step(unittest.TestCase):
    def test_the_first_person_who_may(self):
        calls = [begin(3), like(1, 2, 3), like(2, 0, 20)]
        self.assertEqual(last(*calls, step(0)), [1, 2])
        self.assertEqual(groups_behind(3, *calls, step(0)), [0, 1, 1])

    def test_where_they_have_most(self):
        calls = [begin(4), row(0, [0, 2, 5, 4])]
        self.assertEqual(last(*calls, step(0)), [0, 2])
        self.assertEqual(groups_behind(4, *calls, step(0)), [0, 1, 0, 2])

    def test_where_others_may_go_does_not_count(self):
        # Person 0 isn't welcome where they'd have most; person 1 may go there.
        calls = [begin(3), row(0, [0, 2, 5]), like(2, 0, -1), like(1, 2, 1)]
        self.assertEqual(asked(*calls, moves(1), step(1))[-2:], [[2, 0, 1, 1, 2], [0, 1]])

    def test_of_like_ones_the_least(self):
        self.assertEqual(last(begin(4), row(0, [0, 2, 5, 5]), step(0)), [0, 2])
        self.assertEqual(last(begin(4), row(3, [0, 5, 5, 0]), step(0)), [3, 1])
        # Alone they have as much as with person 2, whose group has the lesser number.
        self.assertEqual(last(begin(3), row(0, [0, -5, 0]), be([0, 0, 1]), step(0)), [0, 1])

    def test_to_be_alone(self):
        calls = [begin(3), row(1, [-3, 0, -1]), be([0, 0, 1])]
        self.assertEqual(last(*calls, step(0)), [1, 2])
        self.assertEqual(groups_behind(3, *calls, step(0)), [0, 1, 2])

    def test_numbered_as_it_was_ahead(self):
        calls = [begin(3), row(0, [0, 1, 5])]
        self.assertEqual(asked(*calls, step(0), step(0))[-2:], [[0, 2], [-6]])
        self.assertEqual(groups_behind(3, *calls, step(0)), [0, 1, 0])

    def test_the_most_of_those_where_they_may(self):
        # By way 0 to person 2, where they're not welcome; by way 1 to person 3 only.
        calls = [begin(4), row(0, [0, 1, 9, 5]), like(2, 0, -1), like(1, 0, 1), be([0, 0, 1, 2])]
        self.assertEqual(last(*calls, step(0)), [0, 1])
        self.assertEqual(last(*calls, step(1)), [0, 2])
        self.assertEqual(last(*calls, step(2)), [-6])
        self.assertEqual(last(*calls, like(1, 0, 0), step(2)), [0, 2])

    def test_who_may_not_is_passed_over(self):
        calls = [begin(3), like(0, 1, 5), like(1, 0, -1), like(2, 0, 1)]
        self.assertEqual([last(*calls, step(w)) for w in (0, 1, 2)], [[0, 1], [2, 0], [2, 0]])

    def test_nobody_may_go(self):
        for n in range(1, 6):
            self.assertEqual(asked(begin(n), step(0), step(1), step(2)), [[0]] + [[-6]] * 3)
        calls = [begin(2), like(0, 1, 5), be([0, 0])]
        self.assertEqual(last(*calls, step(0)), [-6])
        self.assertEqual(all_behind(2, *calls, step(0)), all_behind(2, *calls))

    def test_no_such_way(self):
        for w in (3, 4, GREATEST):
            self.assertEqual(last(begin(2), like(0, 1, 5), step(w)), [-22])
            # Nobody may go here, which is told behind it.
            self.assertEqual(last(begin(2), step(w)), [-22])

    def test_a_step_is_the_move_that_is_listed(self):
        calls = [begin(3), *rows([[0, -4, 6], [3, 0, -2], [1, 8, 0]]), be([0, 0, 1])]
        self.assertEqual(asked(*calls, moves(0), step(0), worths())[-3:],
                         [[3, 0, 1, 0, 2, 2, 0], [0, 1], [0, 6, 0, 1, 7]])


if __name__ == "__main__":
    unittest.main()
