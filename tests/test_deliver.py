"""Promise 2: deliver, what it takes and what it refuses."""

import unittest

from sheet import LEAST, MOST, ahead, an_end, ask, begin, deliver, give, last, time, told

TAKEN = [0, 0, 0, 0, 1, 1, -1]


def first(*stones):
    """What the first delivery of a match answers."""
    return last(begin(), deliver(*stones))


class NotAsTold(unittest.TestCase):
    def test_how_many_numbers(self):
        self.assertEqual(first(), TAKEN)
        self.assertEqual(first((0, 0, 0)), TAKEN)
        for count in (1, 2, 4, 5, 59):
            self.assertEqual(last(begin(), told([0] * count)), [-1], count)

    def test_sixty_numbers_are_stones_told_twice(self):
        self.assertEqual(last(begin(), told([0] * 60)), [-4])

    def test_numbers_of_stones(self):
        for number in (-1, 16, LEAST, MOST):
            self.assertEqual(first((number, 0, 0)), [-1], number)
            self.assertEqual(first((0, 0, 0), (number, 500, 0)), [-1], number)
        self.assertEqual(first((15, 0, 0)), [-4])
        self.assertEqual(last(begin(), *ahead(15), deliver((15, 0, 3000))), [0, 0, 0, 1, 1, 0, -1])
        self.assertEqual(last(begin(), *ahead(15), deliver((16, 0, 3000))), [-1])

    def test_x_and_y(self):
        for far in (-10000, 10000):
            self.assertEqual(first((0, far, 0)), [-4], far)
            self.assertEqual(first((0, 0, far)), [-4], far)
        for far in (-10001, 10001, LEAST, MOST):
            self.assertEqual(first((0, far, 0)), [-1], far)
            self.assertEqual(first((0, 0, far)), [-1], far)


class NoMatch(unittest.TestCase):
    def test_none_is_there(self):
        self.assertEqual(ask(deliver(), deliver((0, 0, 0))), [[-2], [-2]])

    def test_it_is_over(self):
        for ended in ([begin(), give(1)], [begin(time=5), time(0, 5)], [begin(1)] + an_end((0, 0, 0))):
            self.assertEqual(ask(*ended, deliver(), deliver((0, 0, 0)))[-2:], [[-2], [-2]])


class InPlay(unittest.TestCase):
    def test_across(self):
        for x in (-2230, 2230):
            self.assertEqual(first((0, x, 0)), TAKEN, x)
        for x in (-2231, 2231):
            self.assertEqual(first((0, x, 0)), [-4], x)

    def test_up(self):
        for y in (-1974, 6256):
            self.assertEqual(first((0, 0, y)), TAKEN, y)
        for y in (-1975, 6257):
            self.assertEqual(first((0, 0, y)), [-4], y)

    def test_at_the_corners(self):
        for stone in ((0, -2230, -1974), (0, 2230, -1974), (0, -2230, 6256), (0, 2230, 6256)):
            self.assertEqual(first(stone), TAKEN, stone)

    def test_each_stone_is_looked_at(self):
        one = (0, 0, 3000)
        self.assertEqual(last(begin(), deliver(one), deliver((1, 0, -1975), one)), [-4])
        self.assertEqual(last(begin(), deliver(one), deliver(one, (1, 0, -1975))), [-4])


class LieClear(unittest.TestCase):
    def both(self, one, other):
        return last(begin(), deliver((0, 0, 0)), deliver((0,) + one, (1,) + other))[0]

    def test_at_exactly_288(self):
        self.assertEqual(self.both((0, 0), (288, 0)), 0)
        self.assertEqual(self.both((0, 0), (0, -288)), 0)
        self.assertEqual(self.both((0, 0), (287, 0)), -4)
        self.assertEqual(self.both((0, 0), (0, 287)), -4)
        self.assertEqual(self.both((0, 0), (0, 0)), -4)

    def test_aslant(self):
        # 204 and 204: 83232; 204 and 203: 82825; 288 times 288 is 82944
        self.assertEqual(self.both((-100, 50), (104, 254)), 0)
        self.assertEqual(self.both((-100, 50), (104, 253)), -4)
        self.assertEqual(self.both((104, 253), (-100, 50)), -4)

    def test_any_two(self):
        lying = [(0, 0, 0), (1, 400, 0), (2, 800, 0), (3, 1200, 0)]
        ready = [begin()] + [deliver(*lying[:count]) for count in (1, 2, 3)]
        self.assertEqual(last(*ready, deliver(*lying))[0], 0)
        for stone in lying[:3]:
            near = (3, stone[1] + 10, 280)
            self.assertEqual(last(*ready, deliver(*lying[:3], near)), [-4], stone)
            self.assertEqual(last(*ready, deliver(near, *lying[:3])), [-4], stone)


class WhichStones(unittest.TestCase):
    def test_one_told_twice(self):
        self.assertEqual(first((0, 0, 0), (0, 500, 0)), [-4])
        self.assertEqual(first((0, 0, 0), (0, 0, 0)), [-4])

    def test_neither_delivered_now_nor_in_play(self):
        self.assertEqual(first((1, 0, 0)), [-4])
        self.assertEqual(first((0, 0, 0), (1, 500, 0)), [-4])
        self.assertEqual(last(begin(), deliver((0, 0, 0)), deliver((0, 0, 0), (2, 500, 0))), [-4])

    def test_who_is_out_is_out_for_the_end(self):
        self.assertEqual(last(begin(), deliver(), deliver((0, 0, 0))), [-4])
        calls = [begin(), deliver((0, 0, 0)), deliver((1, 500, 0)), deliver((0, 0, 0), (1, 500, 0))]
        self.assertEqual(last(*calls), [-4])

    def test_but_not_for_the_next_end(self):
        self.assertEqual(last(begin(), *ahead(16), deliver((0, 0, 0))), [0, 0, 0, 1, 1, 1, -1])

    def test_stones_of_the_last_end_are_gone(self):
        played = [begin()] + an_end((0, 0, 0))
        self.assertEqual(last(*played, deliver(), deliver((0, 0, 0))), [-4])

    def test_moved_ones_in_any_order(self):
        calls = [begin(), deliver((0, 0, 0)), deliver((1, 400, 0), (0, 0, 0))]
        calls += [deliver((2, 0, 0), (0, 0, 900), (1, 0, -900))]
        self.assertEqual(last(*calls), [0, 0, 0, 0, 1, 3, -1])

    def test_out_the_delivered_one_counts_as_delivered(self):
        self.assertEqual(last(begin(), deliver((0, 0, 0)), deliver((0, 0, 0)), deliver((0, 0, 0), (1, 500, 0))), [-4])
        self.assertEqual(last(begin(), deliver((0, 0, 0)), deliver((0, 0, 0)), deliver((0, 0, 0)))[5], 3)


class OfSeveral(unittest.TestCase):
    def test_the_one_told_first(self):
        wrong = deliver((16, 0, 0), (16, 0, 0))
        twice = deliver((0, 0, 0), (0, 0, 0))
        self.assertEqual(ask(told([0]), wrong, twice), [[-1], [-1], [-2]])
        self.assertEqual(ask(begin(), give(0), told([0]), wrong, twice)[2:], [[-1], [-1], [-2]])
        self.assertEqual(ask(begin(), told([0, 0, 0, 0]), wrong, twice)[1:], [[-1], [-1], [-4]])

    def test_nothing_changes(self):
        lying = [(0, 0, 0), (1, 0, 3000)]
        ready = [begin(), deliver(lying[0]), deliver(*lying)]
        for wrong in (told([2]), deliver((2, 0, 10001)), deliver((2, 9, 9), (0, 0, 0)), deliver((3, 900, 0)),
                      deliver((2, 0, -1975))):
            given = ask(*ready, wrong, deliver(*lying, (2, 900, 0)), time(0, 0))
            self.assertLess(given[3][0], 0)
            self.assertEqual(len(given[3]), 1)
            self.assertEqual(given[4:], [[0, 0, 0, 0, 1, 3, -1], [1000, 0, 0, 0, 1, 3, -1]])

    def test_a_refused_one_is_not_the_sixteenth(self):
        played = [begin(1)] + ahead(15) + [deliver((15, 0, -1975)), deliver((15, 0, 0))]
        self.assertEqual(ask(*played)[-2:], [[-4], [0, 0, 1, 1, 0, 0, 1]])


if __name__ == "__main__":
    unittest.main()
