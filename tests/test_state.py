"""Point 3: likes, groups, state, behind every call that changes, behind refusals, behind back and begin."""

import unittest

from tests.helper import (
    GREATEST, asked, back, be, begin, best, even, go, grouped, last, leave, like, likes, moves, row, rows, run, state,
    step, worths,
)

# Three people: 0 likes 1, who doesn't mind; 2 is for themselves.
AHEAD = [begin(3), row(0, [0, 5, -1]), like(2, 0, -4), be([1, 0, 0])]


class Likes(unittest.TestCase):
    def test_what_each_is_worth_to_one(self):
        self.assertEqual(asked(*AHEAD, likes(0), likes(1), likes(2))[-3:], [[3, 0, 5, -1], [3, 0, 0, 0], [3, -4, 0, 0]])

    def test_behind_begin(self):
        for n in range(1, 6):
            self.assertEqual(asked(begin(n), *[likes(i) for i in range(n)])[1:], [[n] + [0] * n] * n)

    def test_greatest_and_least(self):
        table = [[0 if i == j else (-20, 20)[(i + j) % 2] for j in range(5)] for i in range(5)]
        calls = [begin(5), *rows(table)]
        self.assertEqual(asked(*calls, *[likes(i) for i in range(5)])[-5:], [[5] + worths_of for worths_of in table])

    def test_behind_each_change(self):
        self.assertEqual(last(*AHEAD, like(0, 2, 7), likes(0)), [3, 0, 5, 7])
        self.assertEqual(last(*AHEAD, row(0, [0, 1, 2]), likes(0)), [3, 0, 1, 2])
        self.assertEqual(asked(*AHEAD, even(), likes(0), likes(1), likes(2))[-3:],
                         [[3, 0, 5, -1], [3, 5, 0, 0], [3, -1, 0, 0]])
        for call in (be([0, 0, 0]), go(0, 1), leave(5), step(0)):
            self.assertEqual(asked(*AHEAD, call, likes(0), likes(1), likes(2))[-3:],
                             [[3, 0, 5, -1], [3, 0, 0, 0], [3, -4, 0, 0]])

    def test_behind_a_refusal(self):
        for call in (like(0, 1, 21), like(0, 0, 3), row(0, [1, 2, 3]), row(0, [0, 2]), row(3, [0, 0, 0])):
            self.assertEqual(asked(*AHEAD, call, likes(0))[-2:], [[-2] if call[1] == 3 else [-22], [3, 0, 5, -1]])

    def test_behind_back(self):
        for call in (like(0, 2, 7), row(0, [0, 1, 2]), even()):
            self.assertEqual(asked(*AHEAD, call, back(), likes(0), likes(1), likes(2))[-3:],
                             [[3, 0, 5, -1], [3, 0, 0, 0], [3, -4, 0, 0]])

    def test_behind_begin_again(self):
        self.assertEqual(asked(*AHEAD, begin(2), likes(0), likes(1), likes(2))[-3:], [[2, 0, 0], [2, 0, 0], [-2]])

    def test_nobody_there(self):
        for n in range(1, 6):
            for i in (n, n + 1, GREATEST):
                self.assertEqual(last(begin(n), likes(i)), [-2])


class Groups(unittest.TestCase):
    def test_how_many_then_each_persons(self):
        self.assertEqual(last(*AHEAD, grouped()), [2, 0, 1, 1])

    def test_behind_begin(self):
        for n in range(1, 6):
            self.assertEqual(last(begin(n), grouped()), [n] + list(range(n)))

    def test_told_by_other_numbers(self):
        self.assertEqual(last(begin(5), be([4, 2, 4, 0, 2]), grouped()), [3, 0, 1, 0, 2, 1])
        self.assertEqual(last(begin(5), be([4, 4, 4, 4, 4]), grouped()), [1, 0, 0, 0, 0, 0])

    def test_behind_each_change(self):
        for call, groups in ((go(0, 1), [1, 0, 0, 0]), (go(1, 0), [2, 0, 0, 1]), (go(2, 2), [3, 0, 1, 2]),
                             (leave(5), [2, 0, 1, 0]), (leave(7), [1, 0, 0, 0]), (step(0), [1, 0, 0, 0]),
                             (be([0, 1, 0]), [2, 0, 1, 0]), (like(0, 1, 1), [2, 0, 1, 1]),
                             (row(1, [1, 0, 1]), [2, 0, 1, 1]), (even(), [2, 0, 1, 1])):
            self.assertGreaterEqual(last(*AHEAD, call)[0], 0)
            self.assertEqual(last(*AHEAD, call, grouped()), groups)
            self.assertEqual(last(*AHEAD, call, back(), grouped()), [2, 0, 1, 1])

    def test_behind_a_refusal(self):
        for call in (go(0, 0), go(0, 3), go(3, 0), leave(0), leave(8), step(3), be([0, 0, 3]), be([0, 0]), begin(6)):
            self.assertLess(last(*AHEAD, call)[0], 0)
            self.assertEqual(last(*AHEAD, call, grouped()), [2, 0, 1, 1])

    def test_behind_begin_again(self):
        self.assertEqual(last(*AHEAD, begin(4), grouped()), [4, 0, 1, 2, 3])


class State(unittest.TestCase):
    def test_behind_begin(self):
        for n in range(1, 6):
            self.assertEqual(last(begin(n), state()), [n, 0, 1, 0])

    def test_moves_made(self):
        self.assertEqual(last(*AHEAD, state()), [3, 0, 0, 3])
        for call in (go(0, 1), leave(4), step(0)):
            self.assertEqual(last(*AHEAD, call, state()), [3, 1, 0, 4])
        self.assertEqual(last(*AHEAD, go(0, 1), leave(4), go(0, 1), step(0), state()), [3, 4, 0, 7])

    def test_a_move_that_moves_nobody_counts(self):
        self.assertEqual(last(begin(3), leave(1), state()), [3, 1, 1, 1])
        self.assertEqual(last(begin(3), go(2, 3), state()), [3, 1, 1, 1])

    def test_what_is_no_move_does_not_count(self):
        self.assertEqual(last(*AHEAD, go(0, 1), like(1, 0, 2), row(2, [1, 1, 0]), even(), state()), [3, 1, 1, 7])
        self.assertEqual(last(*AHEAD, go(0, 1), worths(), moves(0), best(0), run(0), run(1), state()), [3, 1, 0, 4])

    def test_be_and_begin_count_anew(self):
        moved = [*AHEAD, go(0, 1), leave(4)]
        self.assertEqual(last(*moved, be([0, 0, 0]), state()), [3, 0, 0, 6])
        self.assertEqual(last(*moved, be([0, 0, 0]), leave(1), state()), [3, 1, 0, 7])
        self.assertEqual(last(*moved, begin(3), state()), [3, 0, 1, 0])
        self.assertEqual(last(*moved, begin(5), state()), [5, 0, 1, 0])

    def test_taken_back(self):
        moved = [*AHEAD, go(0, 1), leave(4)]
        self.assertEqual(last(*moved, back(), state()), [3, 1, 0, 4])
        self.assertEqual(last(*moved, back(), back(), state()), [3, 0, 0, 3])
        self.assertEqual(last(*moved, be([0, 0, 0]), back(), state()), [3, 2, 0, 5])
        self.assertEqual(last(*moved, even(), back(), state()), [3, 2, 0, 5])

    def test_behind_a_refusal(self):
        moved = [*AHEAD, go(0, 1), leave(4)]
        for call in (begin(0), begin(6), like(0, 0, 1), row(0, [1]), be([3, 3, 3]), go(0, 0), go(0, 9), leave(0),
                     step(3)):
            self.assertLess(last(*moved, call)[0], 0)
            self.assertEqual(last(*moved, call, state()), [3, 2, 0, 5])
        self.assertEqual(asked(begin(2), step(0), back(), state())[1:], [[-6], [-6], [2, 0, 1, 0]])

    def test_even(self):
        self.assertEqual(last(begin(2), like(0, 1, 3), state()), [2, 0, 0, 1])
        self.assertEqual(last(begin(2), like(0, 1, 3), like(1, 0, 3), state()), [2, 0, 1, 2])
        self.assertEqual(last(begin(2), like(0, 1, 3), like(1, 0, -3), state()), [2, 0, 0, 2])
        self.assertEqual(last(begin(3), like(2, 1, 3), state()), [3, 0, 0, 1])

    def test_even_made_and_a_row_changed(self):
        made = [begin(3), row(0, [0, 4, 6]), even()]
        self.assertEqual(last(*made, state()), [3, 0, 1, 2])
        self.assertEqual(last(*made, row(1, [3, 0, 0]), state()), [3, 0, 0, 3])
        self.assertEqual(last(*made, row(1, [4, 0, 0]), state()), [3, 0, 1, 3])
        self.assertEqual(last(*made, row(1, [3, 0, 0]), back(), state()), [3, 0, 1, 2])
        self.assertEqual(last(*made, back(), state()), [3, 0, 0, 1])

    def test_never_more_than_ten_can_be_taken_back(self):
        line = [begin(2)]
        for count in range(1, 25):
            line.append((go(0, 1), like(0, 1, count % 20), even(), be([1, 1]), leave(3))[count % 5])
            self.assertEqual(last(*line, state())[3], min(count, 10))
        for left in range(9, -1, -1):
            line.append(back())
            self.assertEqual(asked(*line, state())[-2:], [[left], last(*line, state())[:3] + [left]])
        self.assertEqual(last(*line, back()), [-6])
        self.assertEqual(last(*line, back(), state())[3], 0)


if __name__ == "__main__":
    unittest.main()
