"""Promise 2: what an end counts, who has the hammer then, and who has won."""

import unittest

from sheet import ahead, ask, an_end, begin, deliver, give, last, time


def counted(*stones, hammer=1):
    """Points of side 0 and of side 1 behind one end of several."""
    return last(begin(8, hammer), *an_end(*stones))[1:3]


class Over(unittest.TestCase):
    def test_when_sixteen_are_delivered(self):
        given = ask(begin(), *ahead(17))
        self.assertEqual([answer[3] for answer in given[1:]], [0] * 15 + [1, 1])
        self.assertEqual([answer[5] for answer in given[1:]], list(range(1, 16)) + [0, 1])

    def test_no_stone_lies_there_then(self):
        self.assertEqual(last(begin(), *an_end((1, 0, 0)), deliver((0, 0, 0), (1, 900, 0))), [-4])
        self.assertEqual(last(begin(), *an_end((1, 0, 0)), deliver((0, 0, 0)))[0], 0)

    def test_none_counts_ahead_of_the_sixteenth(self):
        self.assertEqual(last(begin(), *an_end((1, 0, 0))[:15])[1:], [0, 0, 0, 1, 15, -1])


class Counts(unittest.TestCase):
    def test_no_stone(self):
        self.assertEqual(counted(), [0, 0])

    def test_none_in_the_house(self):
        self.assertEqual(counted((0, 0, 1975), (1, 1975, 0)), [0, 0])

    def test_in_the_house_at_exactly_1974(self):
        for stone in ((1, 1974, 0), (1, -1974, 0), (1, 0, 1974), (1, 0, -1974)):
            self.assertEqual(counted(stone), [0, 1], stone)
        for stone in ((1, 1975, 0), (1, -1975, 0), (1, 0, 1975), (1, 1, 1974), (1, -1, -1974)):
            self.assertEqual(counted(stone), [0, 0], stone)

    def test_odd_ones_are_of_the_hammer_s_side(self):
        self.assertEqual(counted((1, 0, 0), hammer=1), [0, 1])
        self.assertEqual(counted((1, 0, 0), hammer=0), [1, 0])
        self.assertEqual(counted((0, 0, 0), hammer=1), [1, 0])
        self.assertEqual(counted((14, 0, 0), hammer=0), [0, 1])
        self.assertEqual(counted((15, 0, 0), hammer=0), [1, 0])

    def test_all_where_the_other_has_none(self):
        self.assertEqual(counted((1, 0, 0), (3, 1000, 0), (5, 1974, 0), (7, 0, 1975)), [0, 3])
        self.assertEqual(counted((1, 0, 0), (3, 1000, 0), (0, 0, 1975)), [0, 2])

    def test_eight(self):
        self.assertEqual(counted(*[(number, 150 * number - 1200, 0) for number in range(0, 16, 2)]), [8, 0])

    def test_those_nearer_than_all_of_the_other_s(self):
        own = [(1, 300, 0), (3, -700, 0), (5, 0, 1100)]
        self.assertEqual(counted((0, 0, -200), *own), [1, 0])
        self.assertEqual(counted((0, 0, -500), *own), [0, 1])
        self.assertEqual(counted((0, 0, -900), *own), [0, 2])
        self.assertEqual(counted((0, 0, -1100), *own), [0, 2])
        self.assertEqual(counted((0, 0, -1101), *own), [0, 3])

    def test_farther_ones_behind_the_other_s_nearest(self):
        self.assertEqual(counted((1, 0, 0), (0, 400, 0), (2, 800, 0), (3, 1200, 0)), [0, 1])

    def test_nearest_ones_as_near(self):
        self.assertEqual(counted((0, 500, 0), (1, -500, 0)), [0, 0])
        self.assertEqual(counted((0, 300, 400), (1, -500, 0), (3, 0, 900)), [0, 0])
        self.assertEqual(counted((0, 500, 0), (1, -501, 0)), [1, 0])
        self.assertEqual(counted((0, 500, 0), (1, -499, 0)), [0, 1])

    def test_points_of_several_ends(self):
        played = [begin(8, 1)] + an_end((1, 0, 0), (3, 400, 0)) + an_end((1, 0, 0)) + an_end((1, 0, 0))
        self.assertEqual(last(*played)[1:], [1, 3, 3, 0, 0, -1])


class Hammer(unittest.TestCase):
    def test_who_has_points_does_not_have_it(self):
        self.assertEqual(last(begin(8, 1), *an_end((1, 0, 0)))[1:], [0, 1, 1, 0, 0, -1])
        self.assertEqual(last(begin(8, 0), *an_end((1, 0, 0)))[1:], [1, 0, 1, 1, 0, -1])

    def test_points_without_it_leave_it(self):
        self.assertEqual(last(begin(8, 1), *an_end((0, 0, 0)))[1:], [1, 0, 1, 1, 0, -1])
        self.assertEqual(last(begin(8, 0), *an_end((0, 0, 0)))[1:], [0, 1, 1, 0, 0, -1])

    def test_it_stays_where_nobody_has_points(self):
        for hammer in (0, 1):
            self.assertEqual(last(begin(8, hammer), *ahead(16))[4], hammer)
            self.assertEqual(last(begin(8, hammer), *an_end((0, 500, 0), (1, -500, 0)))[4], hammer)

    def test_it_passes_by_the_last_end_too(self):
        self.assertEqual(last(begin(1, 1), *an_end((1, 0, 0))), [0, 0, 1, 1, 0, 0, 1])


class Won(unittest.TestCase):
    def test_by_the_last_end(self):
        self.assertEqual(last(begin(1, 1), *an_end((0, 0, 0))), [0, 1, 0, 1, 1, 0, 0])
        self.assertEqual(last(begin(1, 0), *an_end((0, 0, 0))), [0, 0, 1, 1, 0, 0, 1])

    def test_by_points_of_all_ends(self):
        played = [begin(2, 1)] + an_end((1, 0, 0), (3, 400, 0)) + an_end((1, 0, 0))
        self.assertEqual(last(*played), [0, 1, 2, 2, 1, 0, 1])

    def test_not_ahead_of_the_last_end(self):
        self.assertEqual(last(begin(2), *an_end((1, 0, 0)))[6], -1)

    def test_time_is_left_as_it_is_until_ends_are_as_many(self):
        self.assertEqual(last(begin(2, 1, 1000), *ahead(16), time(0, 1))[0], 999)


class AsManyPoints(unittest.TestCase):
    def test_another_end_follows(self):
        tied = [begin(1, 0)] + ahead(16)
        self.assertEqual(last(*tied), [0, 0, 0, 1, 0, 0, -1])
        self.assertEqual(last(*tied, *an_end((0, 0, 0))), [0, 0, 1, 2, 0, 0, 1])

    def test_with_points_on_both(self):
        tied = [begin(2, 1)] + an_end((1, 0, 0)) + an_end((1, 0, 0))
        self.assertEqual(last(*tied), [0, 1, 1, 2, 1, 0, -1])
        self.assertEqual(last(*tied, *an_end((1, 0, 0))), [0, 1, 2, 3, 0, 0, 1])

    def test_270_seconds_more_for_each(self):
        tied = [begin(1, 1, 1000), time(1, 400)] + ahead(16)
        self.assertEqual(last(*tied, time(0, 0))[0], 1270)
        self.assertEqual(last(*tied, time(1, 0))[0], 870)
        self.assertEqual(last(begin(1, 1, 10000), *ahead(16), time(0, 10000))[0], 270)

    def test_so_on(self):
        tied = [begin(1, 1, 1000)] + ahead(48)
        self.assertEqual(last(*tied, time(0, 0)), [1810, 0, 0, 3, 1, 0, -1])
        self.assertEqual(last(*tied, time(1, 0))[0], 1810)
        self.assertEqual(last(*tied, *an_end((1, 0, 0))), [0, 0, 1, 4, 0, 0, 1])

    def test_the_match_may_end_by_time_then(self):
        self.assertEqual(last(begin(1, 1, 1), *ahead(16), time(0, 271)), [0, 0, 0, 1, 1, 0, 1])
        self.assertEqual(last(begin(1, 1, 1), *ahead(16), give(1)), [0, 0, 0, 1, 1, 0, 0])


if __name__ == "__main__":
    unittest.main()
