"""Promise 3: stones."""

import unittest

from sheet import ahead, an_end, ask, begin, deliver, give, last, stones, time, told


def numbers_told(*calls):
    """The numbers of the stones that are told behind the calls, in their order."""
    return last(*calls, stones())[1::6]


def first(x, y):
    """What is told behind the side of the first stone, which lies there."""
    return last(begin(), deliver((0, x, y)), stones())[3:]


class NoMatch(unittest.TestCase):
    def test_none_is_there(self):
        self.assertEqual(ask(stones(), deliver((0, 0, 0)), stones()), [[-2]] * 3)

    def test_behind_a_begin_that_was_refused(self):
        self.assertEqual(ask(begin(13), stones()), [[-1], [-2]])


class NoneInPlay(unittest.TestCase):
    def test_a_match_that_has_just_begun(self):
        self.assertEqual(last(begin(), stones()), [0])

    def test_all_are_out(self):
        self.assertEqual(last(begin(), deliver(), stones()), [0])
        self.assertEqual(last(begin(), deliver((0, 0, 0)), deliver(), stones()), [0])

    def test_behind_an_end(self):
        played = [begin(2)] + an_end((1, 0, 0), (2, 0, 3000))
        self.assertEqual(last(*played[:-1], stones())[0], 2)
        self.assertEqual(last(*played, stones()), [0])
        # side 1 had the point, so the even ones are its own now
        self.assertEqual(last(*played, deliver((0, 5, 6)), stones()), [1, 0, 1, 5, 6, 1, 0])

    def test_nor_the_sixteenth(self):
        self.assertEqual(last(begin(), *ahead(15), deliver((15, 0, 0)), stones()), [0])

    def test_a_new_match(self):
        self.assertEqual(last(begin(), deliver((0, 0, 0)), begin(), stones()), [0])


class EachStone(unittest.TestCase):
    def test_six_numbers(self):
        calls = [begin(8, 1), deliver((0, -5, 3000)), deliver((0, -6, 3100), (1, 700, -800)), stones()]
        self.assertEqual(last(*calls), [2, 0, 0, -6, 3100, 0, 1, 1, 1, 700, -800, 1, 0])

    def test_the_side_for_either_hammer(self):
        places = [(number, 300 * (number % 8) - 1000, 600 * (number // 8)) for number in range(15)]
        for hammer in (0, 1):
            given = last(begin(8, hammer), *an_end(*places)[:15], stones())
            self.assertEqual(given[0], 15)
            self.assertEqual(given[1::6], list(range(15)))
            self.assertEqual(given[2::6], [hammer if number % 2 == 1 else 1 - hammer for number in range(15)])

    def test_the_side_behind_an_end_that_passed_the_hammer(self):
        played = [begin(8, 1)] + an_end((1, 0, 0))
        self.assertEqual(last(*played, deliver((0, 0, 0)), stones())[2], 1)
        self.assertEqual(last(*played, deliver(), deliver((1, 0, 0)), stones())[2], 0)

    def test_in_the_house(self):
        for x, y in ((0, 0), (1974, 0), (-1974, 0), (0, 1974), (0, -1974), (126, 1969)):
            self.assertEqual(first(x, y), [x, y, 1, 0])

    def test_not_in_the_house_nor_a_guard(self):
        for x, y in ((1975, 0), (-1975, 0), (1, -1974), (2230, 0), (-2230, -1), (2230, -1974)):
            self.assertEqual(first(x, y), [x, y, 0, 0])

    def test_a_guard(self):
        for x, y in ((0, 1975), (1, 1974), (141, 1969), (2230, 1), (-2230, 1), (1974, 1), (0, 6256)):
            self.assertEqual(first(x, y), [x, y, 0, 1])

    def test_a_stone_at_y_1_in_the_house(self):
        self.assertEqual(first(1973, 1), [1973, 1, 1, 0])


class Order(unittest.TestCase):
    lying = [(0, 0, 0), (1, 400, 0), (2, 800, 0)]

    def test_as_told(self):
        ready = [begin(), deliver(self.lying[0]), deliver(*self.lying[:2])]
        for order in ((0, 1, 2), (2, 1, 0), (1, 2, 0), (2, 0, 1)):
            told_so = [self.lying[number] for number in order]
            self.assertEqual(numbers_told(*ready, deliver(*told_so)), list(order))

    def test_as_told_last(self):
        ready = [begin(), deliver(self.lying[0]), deliver(self.lying[1], self.lying[0])]
        self.assertEqual(numbers_told(*ready), [1, 0])
        self.assertEqual(numbers_told(*ready, deliver(*self.lying)), [0, 1, 2])
        self.assertEqual(numbers_told(*ready, deliver(self.lying[2], self.lying[0])), [2, 0])

    def test_where_told_last(self):
        moved = [begin(), deliver((0, 0, 0)), deliver((1, 0, 0), (0, 0, -900))]
        self.assertEqual(last(*moved, stones()), [2, 1, 1, 0, 0, 1, 0, 0, 0, 0, -900, 1, 0])

    def test_behind_a_delivery_that_broke_the_rule(self):
        guard, near = (0, 0, 3000), (1, 700, 0)
        ready = [begin(), deliver(guard), deliver(near, guard)]
        ahead_of_it = last(*ready, stones())
        self.assertEqual(ahead_of_it, [2, 1, 1, 700, 0, 1, 0, 0, 0, 0, 3000, 0, 1])
        ready += [deliver(guard, near, (2, 0, 0)), deliver(near, (2, 0, 0), guard)]
        kept = last(*ready, stones())
        self.assertEqual(kept[1::6], [1, 2, 0])
        # the fourth puts the guard out, or off the middle line
        for broken in ((near, (2, 0, 0)), ((3, 0, 900), (0, 600, 3000), (2, 0, 0), near)):
            given = ask(*ready[:-1], deliver(*broken), stones())
            self.assertEqual(given[-2], [1, 0, 0, 0, 1, 4, -1])
            self.assertEqual(given[-1], [3, 0, 0, 0, 3000, 0, 1, 1, 1, 700, 0, 1, 0, 2, 0, 0, 0, 1, 0])

    def test_behind_two_that_broke_it(self):
        guard = (0, 0, 3000)
        broken = [begin(), deliver(guard), deliver((1, 0, 0)), deliver(guard), deliver((3, 0, 0))]
        given = ask(*broken, stones())
        self.assertEqual([given[2][0], given[4][0]], [1, 1])
        self.assertEqual(given[-1], [1, 0, 0, 0, 3000, 0, 1])

    def test_behind_a_refused_one(self):
        ready = [begin(), deliver(self.lying[0]), deliver(self.lying[1], self.lying[0])]
        for wrong in (deliver(self.lying[0], self.lying[0]), deliver((3, 0, 0)), told([0, 0]), deliver((0, 0, 7000))):
            self.assertEqual(numbers_told(*ready, wrong), [1, 0])

    def test_it_changes_nothing(self):
        ready = [begin(), deliver(self.lying[0]), deliver(self.lying[1], self.lying[0])]
        given = ask(*ready, stones(), stones(), deliver(*self.lying))
        self.assertEqual(given[3], given[4])
        self.assertEqual(given[5], [0, 0, 0, 0, 1, 3, -1])


class Over(unittest.TestCase):
    def test_by_the_last_end_none(self):
        self.assertEqual(last(begin(1), *an_end((0, 0, 0)), stones()), [0])

    def test_by_time_or_give_they_lie_as_they_did(self):
        played = [begin(8, 0, 50), deliver((0, 0, 3000)), deliver((1, 0, 0), (0, 0, 3000))]
        lying = [2, 1, 0, 0, 0, 1, 0, 0, 1, 0, 3000, 0, 1]
        for ending in (time(0, 50), time(1, 60), give(0), give(1)):
            self.assertEqual(last(*played, ending, stones()), lying)
            self.assertEqual(last(*played, ending, deliver(), stones()), lying)


if __name__ == "__main__":
    unittest.main()
