"""Point 1: begin, like, row, even, be, back; and what is told ahead of the points."""

import unittest

from restgroups.people import answers
from tests.helper import (
    GREATEST, GREATEST_SIGNED, LEAST_SIGNED, all_behind, among, asked, back, be, beaten, begin, best, envies, even,
    firm, go, grouped, groups_behind, holds, kinds, last, leave, leavers, like, likes, most, moves, perfect, rests,
    rounds, row, rows, run, state, step, worths, worths_behind,
)

# Each call but begin, as it might be told.
OTHERS = [
    [1, 0, 1, 5], [2, 0, 2, 0, 1], [3], [4, 2, 0, 0], [5, 0, 1], [6, 1], [7, 0], [8], [9], [10, 0], [11, 0], [12, 0],
    [13, 0], [14, 0], [15], [16, 0], [17, 0], [18, 0], [19, 0, 0], [20], [21], [22], [23], [24, 0], [25], [26],
]
# Each call that can be, refused where two people have begun, of whom 0 likes 1, in one group.
REFUSED = [
    begin(0), begin(6), like(2, 0, 1), like(0, 0, 1), row(2, [0, 0]), row(0, [1, 1]), be([0]), be([0, 2]), go(2, 0),
    go(0, 9), go(1, 0), leave(0), leave(4), step(3), step(0), moves(3), best(2), leavers(2), rests(3), holds(2), run(3),
    rounds(3), most(2), among(2, 0), among(0, 5), beaten(), likes(2),
]
ASKING = [
    worths(), moves(0), moves(1), moves(2), best(0), best(1), leavers(0), leavers(1), rests(0), rests(1), rests(2),
    holds(0), holds(1), kinds(), run(0), run(1), run(2), rounds(0), rounds(1), rounds(2), most(0), most(1), envies(),
    firm(), perfect(), likes(0), likes(1), grouped(), state(),
] + [among(k, w) for k in range(2) for w in range(5)]


class AheadOfAll(unittest.TestCase):
    def test_nothing_has_begun(self):
        self.assertEqual(asked(*OTHERS), [[-61]] * 26)
        for call in OTHERS:
            self.assertEqual(asked(call, begin(1), worths()), [[-61], [0], [0, 0, 0]])

    def test_a_refused_begin_begins_nothing(self):
        for n in (0, 6, GREATEST):
            self.assertEqual(asked(begin(n), *OTHERS), [[-22]] + [[-61]] * 26)

    def test_not_begun_is_told_ahead_of_all_other_refusals(self):
        wrong = [like(9, 9, 99), row(9, []), be([]), go(9, 9), leave(0), step(3), moves(3), best(9), leavers(2),
                 rests(3), holds(2), run(3), rounds(3), most(2), among(2, 5), likes(9)]
        self.assertEqual(asked(*wrong), [[-61]] * 16)

    def test_the_list_given_back(self):
        self.assertEqual(answers([9, 0, 2, 1, 0, 1, -7, 4, 2, 1, 1, 9, 0, 6]),
                         [1, -61, 1, 0, 2, 0, 0, 1, 1, 4, 0, -7, 0, -7, 1, -22])

    def test_the_list_given_back_by_the_calls_that_ask(self):
        ahead = [0, 3, 2, 0, 3, 0, 4, -3, 1, 1, 0, 2, 4, 3, 0, 1, 0]
        asking = [14, 0, 15, 16, 0, 17, 0, 18, 0, 19, 1, 2, 20, 21, 22, 23, 24, 0, 25, 26]
        self.assertEqual(answers(ahead + asking), [
            1, 0,
            1, 0,
            2, 0, 0,
            1, 2,
            1, 0,
            6, 5, 2, 2, 2, 2, 1,
            5, 1, 1, 0, 0, 1,
            3, 4, 1, 0,
            5, 2, 0, 0, 1, 6,
            5, 1, 0, 0, 0, 0,
            4, 1, 0, 0, 0,
            5, 2, 0, 1, 1, 2,
            7, 6, 1, 2, 3, 4, 6, 7,
            4, 2, 0, 0, 1,
            4, 3, 0, 4, -3,
            4, 2, 0, 1, 0,
            4, 3, 0, 0, 3,
        ])

    def test_one_call_alone(self):
        self.assertEqual(answers([0, 1]), [1, 0])
        self.assertEqual(answers([8]), [1, -61])

    def test_what_is_handed_in_stays_and_nothing_is_kept(self):
        changing = [begin(3), row(0, [0, 5, -5]), even(), be([2, 2, 1]), go(0, 1), leave(3), step(0), back()]
        line = sum(changing + ASKING, [])
        copy = list(line)
        first = answers(line)
        self.assertEqual(line, copy)
        self.assertEqual(answers(line), first)
        self.assertEqual(answers([9]), [1, -61])
        self.assertEqual(line, copy)

    def test_what_is_given_back_is_new_each_time(self):
        first = answers([0, 1])
        first.append(7)
        self.assertEqual(answers([0, 1]), [1, 0])

    def test_five_thousand_calls_of_two_kinds(self):
        given = asked(begin(5), *rows([[0] * 5] * 5), *[moves(2)] * 2497, *[leavers(1)] * 2497)
        self.assertEqual(given, [[0]] * 5000)

    def test_five_thousand_calls_of_all_kinds(self):
        table = [[0, 3, -2, 1, 4], [2, 0, 5, -4, 1], [1, 1, 0, 6, -3], [4, -5, 2, 0, 1], [-1, 2, 3, -6, 0]]
        again = [begin(5), *rows(table), be([0, 1, 0, 2, 2]), step(0), step(1), go(4, 1), leave(9), like(0, 1, -7),
                 *ASKING, beaten(), even(), *ASKING, back(), back(), back()]
        once = asked(*again)
        times = 5000 // len(again)
        filled = [state()] * (5000 - times * len(again))
        self.assertEqual(asked(*again * times, *filled), once * times + [[5, 3, 0, 7]] * len(filled))

    def test_five_thousand_changes(self):
        line = [begin(5)] + [go(0, 1), go(0, 1)] * 2499
        self.assertEqual(asked(*line, state())[-1], [5, 4998, 1, 10])


class Begin(unittest.TestCase):
    def test_how_many_people(self):
        for n in range(1, 6):
            self.assertEqual(asked(begin(n), best(n - 1), best(n)), [[0], [n - 1, 0], [-2]])
            self.assertEqual(last(begin(n), worths()), [0] * (n + 2))

    def test_too_few_and_too_many(self):
        for n in (0, 6, 7, GREATEST):
            self.assertEqual(asked(begin(n)), [[-22]])

    def test_all_are_alone_and_worth_nothing(self):
        self.assertEqual(all_behind(4, begin(4)), ([[0] * 4] * 4, [0, 1, 2, 3], [4, 0, 1, 0], 0))

    def test_begin_again(self):
        used = [begin(4), *rows([[0, 1, 2, 3]] + [[0] * 4] * 3), be([0, 0, 1, 1]), go(0, 1), step(0)]
        self.assertEqual(all_behind(3, *used, begin(3)), ([[0] * 3] * 3, [0, 1, 2], [3, 0, 1, 0], 0))
        self.assertEqual(all_behind(5, *used, begin(5)), ([[0] * 5] * 5, [0, 1, 2, 3, 4], [5, 0, 1, 0], 0))
        self.assertEqual(asked(*used, begin(4), back())[-2:], [[0], [-6]])

    def test_a_refused_begin_leaves_all(self):
        used = [begin(3), like(0, 1, 4), like(2, 1, -9), be([1, 1, 0]), go(0, 1)]
        for n in (0, 6, GREATEST):
            self.assertEqual(last(*used, begin(n)), [-22])
            self.assertEqual(all_behind(3, *used, begin(n)), all_behind(3, *used))


class Like(unittest.TestCase):
    def test_what_it_was(self):
        self.assertEqual(asked(begin(2), like(0, 1, 7), like(0, 1, -3), like(1, 0, 2), like(0, 1, -3), like(0, 1, 0)),
                         [[0], [0, 0], [0, 7], [0, 0], [0, -3], [0, -3]])

    def test_j_is_worth_x_to_i(self):
        self.assertEqual(asked(begin(3), like(0, 2, 5), be([0, 1, 0]), worths())[-1], [0, 5, 0, 0, 5])

    def test_edges_of_x(self):
        for x in (-20, 20, -19, 19, 0):
            self.assertEqual(asked(begin(2), like(1, 0, x), like(1, 0, 0)), [[0], [0, 0], [0, x]])
        for x in (-21, 21, LEAST_SIGNED, GREATEST_SIGNED):
            self.assertEqual(asked(begin(2), like(1, 0, 3), like(1, 0, x), like(1, 0, 0)), [[0], [0, 0], [-22], [0, 3]])

    def test_oneself(self):
        for x in (0, 5, 21):
            self.assertEqual(last(begin(2), like(1, 1, x)), [-22])
        self.assertEqual(last(begin(1), like(0, 0, 0)), [-22])

    def test_nobody_there(self):
        for i, j in ((2, 0), (0, 2), (2, 2), (GREATEST, 1), (1, GREATEST), (GREATEST, GREATEST)):
            self.assertEqual(last(begin(2), like(i, j, 1)), [-2])

    def test_nobody_there_is_told_first(self):
        self.assertEqual(last(begin(2), like(2, 2, 21)), [-2])
        self.assertEqual(last(begin(2), like(0, 3, GREATEST_SIGNED)), [-2])


class Row(unittest.TestCase):
    def test_so_much_each_is_worth(self):
        calls = [begin(3), like(1, 0, 9), row(0, [0, -20, 20]), row(2, [3, -4, 0])]
        self.assertEqual(asked(*calls)[2:], [[0], [0]])
        self.assertEqual(worths_behind(3, *calls), [[0, -20, 20], [9, 0, 0], [3, -4, 0]])

    def test_one_person(self):
        self.assertEqual(asked(begin(1), row(0, [0]), row(0, [1]), row(0, []), row(0, [0, 0])),
                         [[0], [0], [-22], [-22], [-22]])

    def test_a_wrong_length(self):
        for length in (0, 1, 2, 4, 5, 12):
            self.assertEqual(last(begin(3), row(0, [0] * length)), [-22])

    def test_edges_of_the_numbers(self):
        for x in (-21, 21, LEAST_SIGNED, GREATEST_SIGNED):
            self.assertEqual(last(begin(3), row(0, [0, 1, x])), [-22])
            self.assertEqual(last(begin(3), row(1, [x, 0, 1])), [-22])

    def test_their_own(self):
        for x in (1, -1, 20, -20, GREATEST_SIGNED):
            self.assertEqual(last(begin(2), row(1, [0, x])), [-22])

    def test_refused_it_changes_nothing(self):
        ahead = [begin(3), row(1, [4, 0, 5])]
        for wrong in (row(1, [1, 0]), row(1, [1, 1, 1]), row(1, [1, 0, 21]), row(3, [1, 0, 1])):
            self.assertEqual(all_behind(3, *ahead, wrong), all_behind(3, *ahead))

    def test_nobody_there_is_told_first(self):
        for i in (3, GREATEST):
            self.assertEqual(last(begin(3), row(i, [0, 0, 0])), [-2])
            self.assertEqual(last(begin(3), row(i, [])), [-2])
            self.assertEqual(last(begin(3), row(i, [99] * 12)), [-2])


class Even(unittest.TestCase):
    def test_what_the_greater_is_worth_to_the_lesser_stays(self):
        calls = [begin(3), *rows([[0, 1, 2], [3, 0, 4], [5, 6, 0]]), even()]
        self.assertEqual(last(*calls), [0])
        self.assertEqual(worths_behind(3, *calls), [[0, 1, 2], [1, 0, 4], [2, 4, 0]])

    def test_even_already(self):
        self.assertEqual(last(begin(1), even()), [1])
        self.assertEqual(last(begin(5), even()), [1])
        self.assertEqual(asked(begin(2), like(0, 1, 3), even(), even()), [[0], [0, 0], [0], [1]])
        self.assertEqual(last(begin(2), like(0, 1, -3), like(1, 0, -3), even()), [1])

    def test_even_made_and_a_row_changed(self):
        ahead = [begin(3), like(0, 2, 3), even()]
        self.assertEqual(asked(*ahead, row(2, [1, 0, 0]), even(), even())[-3:], [[0], [0], [1]])
        self.assertEqual(asked(*ahead, row(2, [3, 0, 0]), even())[-2:], [[0], [1]])
        self.assertEqual(asked(*ahead, like(2, 0, 4), even())[-2:], [[0, 3], [0]])
        self.assertEqual(worths_behind(3, *ahead, row(2, [1, 7, 0]), even()), [[0, 0, 3], [0, 0, 0], [3, 0, 0]])

    def test_groups_stay(self):
        self.assertEqual(groups_behind(3, begin(3), be([0, 1, 0]), like(0, 1, 5), even()), [0, 1, 0])


class Be(unittest.TestCase):
    def test_how_many_groups(self):
        for groups, count in (([0, 0, 0], 1), ([0, 1, 0], 2), ([0, 1, 2], 3), ([0, 1, 1], 2)):
            self.assertEqual(last(begin(3), be(groups)), [count])
            self.assertEqual(groups_behind(3, begin(3), be(groups)), groups)

    def test_groups_told_by_other_numbers(self):
        for told, groups in (([4, 4, 4, 4, 4], [0, 0, 0, 0, 0]), ([4, 3, 2, 1, 0], [0, 1, 2, 3, 4]),
                             ([3, 0, 3, 4, 0], [0, 1, 0, 2, 1]), ([1, 0, 0, 1, 2], [0, 1, 1, 0, 2])):
            self.assertEqual(last(begin(5), be(told)), [max(groups) + 1])
            self.assertEqual(groups_behind(5, begin(5), be(told)), groups)

    def test_one_person(self):
        self.assertEqual(asked(begin(1), be([0]), be([1]), be([]), be([0, 0])), [[0], [1], [-22], [-22], [-22]])

    def test_refused(self):
        for groups in ([], [0], [0, 0], [0] * 4, [0] * 12, [0, 1, 3], [3, 0, 0], [0, 0, GREATEST], [GREATEST] * 3):
            self.assertEqual(last(begin(3), be([1, 0, 1]), be(groups)), [-22])
            self.assertEqual(all_behind(3, begin(3), be([1, 0, 1]), be(groups)), all_behind(3, begin(3), be([1, 0, 1])))

    def test_worths_stay(self):
        self.assertEqual(worths_behind(2, begin(2), like(0, 1, 5), be([1, 1])), [[0, 5], [0, 0]])


class Back(unittest.TestCase):
    def test_nothing_to_take_back(self):
        self.assertEqual(asked(begin(2), back(), back()), [[0], [-6], [-6]])

    def test_each_change_is_taken_back(self):
        ahead = [begin(3), row(0, [0, -5, 1]), row(1, [-2, 0, 3]), be([0, 0, 1])]
        changes = [like(0, 1, 6), like(0, 1, -5), row(2, [1, 2, 0]), row(0, [0, -5, 1]), even(), be([0, 1, 2]),
                   be([1, 1, 0]), go(0, 1), go(2, 2), leave(1), leave(3), step(0), step(1), step(2)]
        for change in changes:
            self.assertGreaterEqual(last(*ahead, change)[0], 0)
            self.assertEqual(last(*ahead, change, back()), [3])
            self.assertEqual(all_behind(3, *ahead, change, back()), all_behind(3, *ahead))

    def test_even_that_changes_no_number_is_a_change(self):
        self.assertEqual(asked(begin(2), even(), back(), back()), [[0], [1], [0], [-6]])

    def test_refusals_and_asking_are_no_changes(self):
        ahead = [begin(2), like(0, 1, 3), be([1, 1])]
        for call in REFUSED:
            self.assertLess(last(*ahead, call)[0], 0)
        for call in REFUSED + ASKING:
            self.assertEqual(all_behind(2, *ahead, call), all_behind(2, *ahead))
        self.assertEqual(asked(*ahead, *REFUSED, *ASKING, back(), back(), back())[-3:], [[1], [0], [-6]])

    def test_a_step_that_nobody_takes_is_no_change(self):
        self.assertEqual(asked(begin(2), step(0), step(1), step(2), back()), [[0], [-6], [-6], [-6], [-6]])

    def test_going_to_ones_own_group_is_no_change(self):
        self.assertEqual(asked(begin(2), go(1, 1), back()), [[0], [-17], [-6]])

    def test_more_than_ten(self):
        calls = [begin(2)] + [like(0, 1, x) for x in range(1, 14)]
        taken = asked(*calls, *[back()] * 12)[-12:]
        self.assertEqual(taken, [[9], [8], [7], [6], [5], [4], [3], [2], [1], [0], [-6], [-6]])
        self.assertEqual(worths_behind(2, *calls, *[back()] * 12), [[0, 3], [0, 0]])

    def test_just_ten(self):
        calls = [begin(2)] + [like(0, 1, x) for x in range(1, 11)] + [back()] * 10
        self.assertEqual(asked(*calls, back())[-2:], [[0], [-6]])
        self.assertEqual(worths_behind(2, *calls), [[0, 0], [0, 0]])

    def test_a_change_behind_some_taken_back(self):
        calls = [begin(2)] + [like(0, 1, x) for x in range(1, 13)] + [back()] * 4 + [like(0, 1, 20)]
        self.assertEqual(asked(*calls, *[back()] * 8)[-8:], [[6], [5], [4], [3], [2], [1], [0], [-6]])
        self.assertEqual(worths_behind(2, *calls, back()), [[0, 8], [0, 0]])

    def test_back_is_no_change_itself(self):
        self.assertEqual(asked(begin(2), like(0, 1, 1), like(0, 1, 2), back(), back(), back())[-3:], [[1], [0], [-6]])

    def test_all_kinds_of_changes_one_behind_another(self):
        changes = [like(0, 1, 6), row(1, [3, 0, -2]), be([2, 0, 2]), go(1, 0), leave(6), even(), step(0), like(2, 1, 5)]
        for taken in range(len(changes) + 1):
            ahead = [begin(3)] + changes[:len(changes) - taken]
            taken_back = [begin(3)] + changes + [back()] * taken
            self.assertEqual(all_behind(3, *taken_back), all_behind(3, *ahead))


if __name__ == "__main__":
    unittest.main()
