"""Promise 1: begin."""

import unittest

from sheet import LEAST, MOST, ahead, an_end, ask, begin, deliver, give, last, time


class Begins(unittest.TestCase):
    def test_ends_from_1_to_12(self):
        self.assertEqual(ask(begin(1), begin(2), begin(11), begin(12)), [[0]] * 4)

    def test_other_ends_are_refused(self):
        for ends in (0, 13, -1, LEAST, MOST):
            self.assertEqual(ask(begin(ends)), [[-1]], ends)

    def test_sides_0_and_1(self):
        self.assertEqual(last(begin(hammer=0), deliver())[4], 0)
        self.assertEqual(last(begin(hammer=1), deliver())[4], 1)

    def test_other_sides_are_refused(self):
        for side in (-1, 2, LEAST, MOST):
            self.assertEqual(ask(begin(hammer=side)), [[-1]], side)

    def test_time_from_1_to_10000(self):
        self.assertEqual(ask(begin(time=1), time(0, 0)), [[0], [1, 0, 0, 0, 1, 0, -1]])
        self.assertEqual(ask(begin(time=10000), time(1, 0)), [[0], [10000, 0, 0, 0, 1, 0, -1]])

    def test_other_time_is_refused(self):
        for seconds in (0, 10001, -1, LEAST, MOST):
            self.assertEqual(ask(begin(time=seconds)), [[-1]], seconds)

    def test_how_it_stands_at_the_beginning(self):
        self.assertEqual(last(begin(4, 0, 500), time(1, 0)), [500, 0, 0, 0, 0, 0, -1])

    def test_as_many_ends_as_it_goes_to(self):
        for ends in (1, 2, 12):
            played = [begin(ends)] + an_end((1, 0, 0))
            for number in range(1, ends):
                self.assertEqual(last(*played)[6], -1, number)
                played += ahead(16)
            self.assertEqual(last(*played)[1:], [0, 1, ends, 0, 0, 1])


class BeginsAgain(unittest.TestCase):
    def test_what_was_is_gone(self):
        played = [begin(2)] + an_end((1, 0, 0)) + [deliver((0, 0, 0)), time(0, 300)]
        self.assertEqual(last(*played)[1:], [0, 1, 1, 0, 1, -1])
        self.assertEqual(last(*played, begin(2, 1, 900), time(0, 0)), [900, 0, 0, 0, 1, 0, -1])
        self.assertEqual(last(*played, begin(2, 1, 900), time(1, 0)), [900, 0, 0, 0, 1, 0, -1])

    def test_ends_of_the_new_match_hold(self):
        played = [begin(5), begin(1)] + an_end((1, 0, 0))
        self.assertEqual(last(*played), [0, 0, 1, 1, 0, 0, 1])

    def test_behind_a_match_that_is_over(self):
        self.assertEqual(ask(begin(), give(0), begin(), deliver())[2:], [[0], [0, 0, 0, 0, 1, 1, -1]])

    def test_a_refused_one_changes_nothing(self):
        for wrong in (begin(ends=0), begin(hammer=2), begin(time=0)):
            given = ask(begin(), deliver((0, 0, 0)), time(1, 100), wrong, deliver((0, 0, 0), (1, 300, 0)), time(1, 0))
            self.assertEqual(given[3:], [[-1], [0, 0, 0, 0, 1, 2, -1], [900, 0, 0, 0, 1, 2, -1]])
            self.assertEqual(ask(wrong, deliver()), [[-1], [-2]])


if __name__ == "__main__":
    unittest.main()
