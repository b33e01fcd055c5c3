"""Point 4: run and round."""

import unittest

from tests.helper import (
    GREATEST, all_behind, asked, be, begin, even, last, like, rounds, row, rows, run, step,
)

# Apart 0 goes to 1, who isn't glad of it and goes away, and so on.
AFTER = [begin(2), like(0, 1, 1), like(1, 0, -1)]
# Each of three dislikes the next one.
AWAY = [begin(3), *rows([[0, -1, 0], [0, 0, -1], [-1, 0, 0]])]
# Each of three likes the one ahead.
TOWARD = [begin(3), *rows([[0, 0, 1], [1, 0, 0], [0, 1, 0]])]


class Run(unittest.TestCase):
    def test_no_move(self):
        for n in range(1, 6):
            for w in range(3):
                self.assertEqual(last(begin(n), run(w)), [0, 1] + list(range(n)))
                self.assertEqual(last(begin(n), be([0] * n), run(w)), [0, 1] + [0] * n)

    def test_it_ends_at_rest(self):
        both = [begin(2), like(0, 1, 1), like(1, 0, 1)]
        for w in range(3):
            self.assertEqual(last(*both, run(w)), [1, 1, 0, 0])
        self.assertEqual(last(*AWAY, be([0, 0, 0]), run(1)), [2, 1, 0, 1, 2])
        self.assertEqual(last(*AWAY, be([0, 0, 0]), run(2)), [2, 1, 0, 1, 2])

    def test_it_comes_again_to_where_it_began(self):
        self.assertEqual(last(*AFTER, run(0)), [2, 0, 0, 1])
        self.assertEqual(last(*AFTER, be([0, 0]), run(0)), [2, 0, 0, 0])
        self.assertEqual(last(*AWAY, be([0, 1, 1]), run(0)), [3, 0, 0, 1, 1])

    def test_it_comes_again_to_what_was_come_to(self):
        self.assertEqual(last(*AWAY, be([0, 0, 0]), run(0)), [4, 0, 0, 1, 1])
        # First 0 goes to 3, once; then 1 goes to 2, who goes away.
        calls = [begin(4), like(0, 3, 1), like(1, 2, 1), row(2, [-1, -1, 0, -1])]
        self.assertEqual(last(*calls, run(0)), [3, 0, 0, 1, 2, 0])
        self.assertEqual(last(*calls, run(1)), [1, 1, 0, 1, 2, 0])
        # 2 goes away to 0 and 3, 1 goes there too, and 2 goes away alone.
        self.assertEqual(last(*calls, row(2, [0, -1, 0, 0]), run(0)), [6, 0, 0, 1, 1, 0])

    def test_the_ways(self):
        self.assertEqual([last(*AFTER, run(w)) for w in (0, 1, 2)], [[2, 0, 0, 1], [0, 1, 0, 1], [0, 1, 0, 1]])
        together = [*AFTER, be([0, 0])]
        self.assertEqual([last(*together, run(w)) for w in (0, 1, 2)], [[2, 0, 0, 0], [1, 1, 0, 1], [0, 1, 0, 0]])

    def test_five_people(self):
        table = [[0 if i == j else 20 for j in range(5)] for i in range(5)]
        for w in range(3):
            self.assertEqual(last(begin(5), *rows(table), run(w)), [4, 1, 0, 0, 0, 0, 0])
        # Two and three: who would go to the three isn't let go.
        apart = [begin(5), *rows(table), be([0, 1, 0, 1, 1])]
        self.assertEqual([last(*apart, run(w)) for w in (0, 1, 2)],
                         [[2, 1, 0, 0, 0, 0, 0], [2, 1, 0, 0, 0, 0, 0], [0, 1, 0, 1, 0, 1, 1]])

    def test_it_is_step_behind_step(self):
        table = [[0, 3, -2, 1, 4], [2, 0, 5, -4, 1], [1, 1, 0, 6, -3], [4, -5, 2, 0, 1], [-1, 2, 3, -6, 0]]
        for w in range(3):
            made, rests_then, *then = last(begin(5), *rows(table), even(), run(w))
            self.assertGreater(made, 0)
            self.assertEqual(rests_then, 1)
            stepped = [begin(5), *rows(table), even(), *[step(w)] * made]
            self.assertEqual(last(*stepped, step(w)), [-6])
            self.assertEqual(last(*stepped, run(w)), [0, 1] + then)

    def test_the_groups_stay_as_they_are(self):
        for calls, n in ((AFTER, 2), ([*AWAY, be([0, 0, 0]), step(0)], 3)):
            for w in range(3):
                self.assertEqual(all_behind(n, *calls, run(w)), all_behind(n, *calls))
                self.assertEqual(asked(*calls, run(w), run(w))[-1], last(*calls, run(w)))

    def test_no_such_way(self):
        for w in (3, 4, GREATEST):
            self.assertEqual(last(*AFTER, run(w)), [-22])
            self.assertEqual(last(begin(1), run(w)), [-22])


class Round(unittest.TestCase):
    def test_nobody_may_go(self):
        for n in range(1, 6):
            for w in range(3):
                self.assertEqual(last(begin(n), rounds(w)), [1, 1, 0])
                self.assertEqual(last(begin(n), be([0] * n), rounds(w)), [1, 1, 0])

    def test_it_ends(self):
        table = [[0, 1, 1], [1, 0, 1], [1, 1, 0]]
        self.assertEqual(last(begin(3), *rows(table), rounds(0)), [5, 1, 0])
        self.assertEqual(last(begin(3), *rows(table), rounds(2)), [5, 1, 0])
        self.assertEqual(last(begin(3), *rows(table), be([0, 0, 1]), rounds(0)), [2, 1, 0])

    def test_it_goes_round_without_rest(self):
        self.assertEqual(last(*AFTER, rounds(0)), [2, 0, 1])
        self.assertEqual(last(*AFTER, be([0, 0]), rounds(0)), [2, 0, 1])

    def test_it_goes_round_with_rest(self):
        self.assertEqual(last(*AWAY, be([0, 0, 0]), rounds(0)), [5, 1, 1])
        self.assertEqual(last(*AWAY, be([0, 1, 1]), rounds(0)), [4, 1, 1])
        self.assertEqual(last(*AWAY, rounds(0)), [1, 1, 0])

    def test_it_goes_round_though_all_are_welcome(self):
        self.assertEqual([last(*TOWARD, be([0, 0, 1]), rounds(w)) for w in (0, 1, 2)],
                         [[4, 1, 1], [4, 1, 1], [2, 1, 0]])

    def test_the_ways(self):
        self.assertEqual([last(*AFTER, rounds(w)) for w in (0, 1, 2)], [[2, 0, 1], [1, 1, 0], [1, 1, 0]])
        together = [*AFTER, be([0, 0])]
        self.assertEqual([last(*together, rounds(w)) for w in (0, 1, 2)], [[2, 0, 1], [2, 1, 0], [1, 1, 0]])
        self.assertEqual([last(*AWAY, be([0, 0, 0]), rounds(w)) for w in (1, 2)], [[5, 1, 0], [5, 1, 0]])

    def test_whoever_goes_first(self):
        # A step would take 0 to 1; yet 2 might go to 1 first, and 0 then no more.
        calls = [begin(3), row(0, [0, 1, -1]), like(2, 1, 1)]
        self.assertEqual(last(*calls, rounds(0)), [4, 1, 0])

    def test_to_wherever_they_may_go(self):
        # Not only to where they have most.
        self.assertEqual(last(begin(3), row(0, [0, 1, 2]), rounds(0)), [3, 1, 0])

    def test_one_goes_round_others_rest(self):
        calls = [begin(5), like(3, 4, 20), like(4, 3, -20)]
        self.assertEqual(last(*calls, rounds(0))[1:], [0, 1])
        self.assertEqual(last(*calls, rounds(1)), [1, 1, 0])

    def test_even_it_never_goes_round(self):
        for calls in (AFTER, [*AWAY, be([0, 0, 0])], [*TOWARD, be([0, 0, 1])]):
            for w in range(3):
                self.assertEqual(last(*calls, even(), rounds(w))[1:], [1, 0])

    def test_all_stays_as_it_is(self):
        for w in range(3):
            self.assertEqual(all_behind(3, *AWAY, be([0, 0, 0]), rounds(w)), all_behind(3, *AWAY, be([0, 0, 0])))

    def test_no_such_way(self):
        for w in (3, 4, GREATEST):
            self.assertEqual(last(*AFTER, rounds(w)), [-22])
            self.assertEqual(last(begin(1), rounds(w)), [-22])


if __name__ == "__main__":
    unittest.main()
