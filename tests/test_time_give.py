"""Promise 3: time and give."""

import unittest

from sheet import LEAST, MOST, an_end, ask, begin, deliver, give, last, time


class Time(unittest.TestCase):
    def test_each_side_has_its_own(self):
        given = ask(begin(time=500), time(0, 30), time(1, 200), time(0, 70), time(1, 0))
        self.assertEqual([answer[0] for answer in given[1:]], [470, 300, 400, 300])
        self.assertEqual(given[-1][1:], [0, 0, 0, 1, 0, -1])

    def test_other_sides_are_refused(self):
        for side in (-1, 2, LEAST, MOST):
            self.assertEqual(last(begin(), time(side, 5)), [-1], side)

    def test_seconds_from_0_to_10000(self):
        self.assertEqual(last(begin(time=10000), time(0, 0))[0], 10000)
        self.assertEqual(last(begin(time=10000), time(0, 10000)), [0, 0, 0, 0, 1, 0, 1])
        for seconds in (-1, 10001, LEAST, MOST):
            self.assertEqual(last(begin(time=10000), time(0, seconds)), [-1], seconds)

    def test_it_runs_out(self):
        self.assertEqual(last(begin(time=500), time(0, 499)), [1, 0, 0, 0, 1, 0, -1])
        self.assertEqual(last(begin(time=500), time(0, 500)), [0, 0, 0, 0, 1, 0, 1])
        self.assertEqual(last(begin(time=500), time(1, 501)), [0, 0, 0, 0, 1, 0, 0])
        self.assertEqual(last(begin(time=500), time(1, 10000)), [0, 0, 0, 0, 1, 0, 0])
        self.assertEqual(last(begin(time=500), time(1, 300), time(1, 200)), [0, 0, 0, 0, 1, 0, 0])

    def test_all_else_stays(self):
        played = [begin(3, 1, 500)] + an_end((1, 0, 0), (3, 400, 0)) + [deliver((0, 0, 0)), deliver((1, 0, 0))]
        self.assertEqual(last(*played, time(1, 500)), [0, 0, 2, 1, 0, 2, 0])

    def test_no_match(self):
        self.assertEqual(ask(time(0, 5), time(1, 0)), [[-2], [-2]])

    def test_it_is_over(self):
        for ended in ([begin(), give(1)], [begin(time=5), time(0, 5)], [begin(1)] + an_end((0, 0, 0))):
            self.assertEqual(ask(*ended, time(0, 5), time(1, 0))[-2:], [[-2], [-2]])

    def test_of_several_the_one_told_first(self):
        self.assertEqual(ask(time(2, 5), time(0, 10001), time(0, 5)), [[-1], [-1], [-2]])
        self.assertEqual(ask(begin(), give(0), time(2, 5), time(0, -1), time(0, 5))[2:], [[-1], [-1], [-2]])

    def test_a_refused_one_changes_nothing(self):
        given = ask(begin(time=500), time(0, 10001), time(0, -1), time(2, 5), time(-1, 5), time(0, 0), time(1, 0))
        self.assertEqual([answer[0] for answer in given[5:]], [500, 500])


class Give(unittest.TestCase):
    def test_the_other_side_has_won(self):
        self.assertEqual(last(begin(), give(0)), [0, 0, 0, 0, 1, 0, 1])
        self.assertEqual(last(begin(), give(1)), [0, 0, 0, 0, 1, 0, 0])

    def test_other_sides_are_refused(self):
        for side in (-1, 2, LEAST, MOST):
            self.assertEqual(ask(begin(), give(side), deliver())[1:], [[-1], [0, 0, 0, 0, 1, 1, -1]], side)

    def test_all_else_stays(self):
        played = [begin(3, 1)] + an_end((1, 0, 0), (3, 400, 0)) + [deliver((0, 0, 0))]
        self.assertEqual(last(*played, give(1)), [0, 0, 2, 1, 0, 1, 0])

    def test_no_match(self):
        self.assertEqual(ask(give(0), give(1)), [[-2], [-2]])

    def test_it_is_over(self):
        for ended in ([begin(), give(1)], [begin(time=5), time(0, 5)], [begin(1)] + an_end((0, 0, 0))):
            self.assertEqual(ask(*ended, give(0), give(1))[-2:], [[-2], [-2]])

    def test_of_several_the_one_told_first(self):
        given = ask(give(2), begin(), give(0), give(-1), give(1))
        self.assertEqual(given, [[-1], [0], [0, 0, 0, 0, 1, 0, 1], [-1], [-2]])


if __name__ == "__main__":
    unittest.main()
