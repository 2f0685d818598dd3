"""Promise 2: the rule of guards."""

import unittest

from sheet import ahead, ask, begin, deliver, last

KEPT = 0
BROKEN = 1


def moved(number, guard, then):
    """What the delivery behind the guard's own answers first; nothing else was delivered but outs."""
    behind = [] if then is None else [(number,) + then]
    return last(begin(), *ahead(number), deliver((number,) + guard), deliver(*behind))[0]


class Until(unittest.TestCase):
    def test_fewer_than_five_were_delivered(self):
        for number in range(4):
            self.assertEqual(moved(number, (600, 3000), None), BROKEN, number)

    def test_not_from_then_on(self):
        for number in range(4, 15):
            self.assertEqual(moved(number, (600, 3000), None), KEPT, number)

    def test_an_early_guard_is_free_later(self):
        guard = (0, 0, 3000)
        ready = [begin()] + [deliver(guard)] * 4
        self.assertEqual(last(*ready, deliver())[0], KEPT)
        self.assertEqual(last(*ready, deliver(guard), deliver())[0], KEPT)
        guard = (1, 0, 3000)
        ready = [begin(), deliver()] + [deliver(guard)] * 3
        self.assertEqual(last(*ready, deliver())[0], BROKEN)
        self.assertEqual(last(*ready, deliver(guard), deliver(guard), deliver())[0], KEPT)

    def test_in_each_end_anew(self):
        guard = (0, 0, 3000)
        self.assertEqual(last(begin(), *ahead(16), deliver(guard), deliver())[0], BROKEN)

    def test_whoever_has_the_hammer(self):
        for hammer in (0, 1):
            self.assertEqual(last(begin(hammer=hammer), deliver((0, 0, 3000)), deliver())[0], BROKEN)


class OutOfPlay(unittest.TestCase):
    def test_the_other_side_s_guard(self):
        self.assertEqual(moved(0, (900, 3000), None), BROKEN)
        self.assertEqual(moved(1, (0, 6256), None), BROKEN)

    def test_an_own_guard(self):
        for number in (0, 1, 2):
            guard = (number, 0, 3000)
            ready = [begin()] + ahead(number) + [deliver(guard), deliver(guard)]
            self.assertEqual(last(*ready, deliver())[0], KEPT)

    def test_what_is_a_guard(self):
        self.assertEqual(moved(0, (0, 1975), None), BROKEN)
        self.assertEqual(moved(0, (0, 1974), None), KEPT)
        self.assertEqual(moved(0, (2230, 1), None), BROKEN)
        self.assertEqual(moved(0, (2230, 0), None), KEPT)
        self.assertEqual(moved(0, (2230, -1), None), KEPT)

    def test_in_the_house_aslant(self):
        # the squares are 3892837 and 3896842; 1974 times 1974 is 3896676
        self.assertEqual(moved(0, (126, 1969), None), KEPT)
        self.assertEqual(moved(0, (141, 1969), None), BROKEN)

    def test_it_may_lie_elsewhere_off_the_middle_line(self):
        self.assertEqual(moved(0, (900, 3000), (1900, 5000)), KEPT)
        self.assertEqual(moved(0, (900, 3000), (0, 0)), KEPT)
        self.assertEqual(moved(0, (900, 3000), (900, -1974)), KEPT)

    def test_one_of_several(self):
        first, second = (0, 600, 3000), (2, -600, 3000)
        ready = [begin(), deliver(first), deliver(first), deliver(first, second)]
        self.assertEqual(last(*ready, deliver(first, second, (3, 0, 0)))[0], KEPT)
        self.assertEqual(last(*ready, deliver(first, (3, 0, 0)))[0], BROKEN)
        self.assertEqual(last(*ready, deliver((3, 0, 0), second))[0], BROKEN)


class MiddleLine(unittest.TestCase):
    def test_it_touched_and_does_not_any_more(self):
        self.assertEqual(moved(0, (145, 3000), (146, 3000)), BROKEN)
        self.assertEqual(moved(0, (-145, 3000), (-146, 3000)), BROKEN)
        self.assertEqual(moved(0, (0, 3000), (500, 0)), BROKEN)
        self.assertEqual(moved(1, (0, 3000), (-2230, 3000)), BROKEN)

    def test_it_touches_still(self):
        self.assertEqual(moved(0, (145, 3000), (-145, 3000)), KEPT)
        self.assertEqual(moved(0, (0, 3000), (145, 5000)), KEPT)
        self.assertEqual(moved(0, (0, 3000), (-145, 0)), KEPT)

    def test_it_did_not_touch(self):
        self.assertEqual(moved(0, (146, 3000), (147, 3000)), KEPT)
        self.assertEqual(moved(0, (-146, 3000), (600, 3000)), KEPT)

    def test_it_was_not_a_guard(self):
        self.assertEqual(moved(0, (0, 1974), (600, 0)), KEPT)
        self.assertEqual(moved(0, (0, -1974), (600, 0)), KEPT)

    def test_an_own_guard(self):
        guard = (0, 0, 3000)
        self.assertEqual(last(begin(), deliver(guard), deliver(guard), deliver((0, 600, 3000)))[0], KEPT)

    def test_not_from_the_fifth_on(self):
        self.assertEqual(moved(3, (0, 3000), (600, 3000)), BROKEN)
        self.assertEqual(moved(4, (0, 3000), (600, 3000)), KEPT)


class Broken(unittest.TestCase):
    guard = (0, 0, 3000)

    def test_how_it_stands(self):
        self.assertEqual(last(begin(), deliver(self.guard), deliver((1, 0, 0))), [1, 0, 0, 0, 1, 2, -1])

    def test_the_delivered_one_is_out(self):
        ready = [begin(), deliver(self.guard), deliver((1, 0, 0))]
        self.assertEqual(last(*ready, deliver(self.guard, (1, 0, 0))), [-4])
        self.assertEqual(last(*ready, deliver(self.guard, (2, 0, 0))), [0, 0, 0, 0, 1, 3, -1])

    def test_all_stones_lie_as_ahead_of_it(self):
        # were the guard off the middle line, as told by the broken one, it might move farther
        ready = [begin(), deliver(self.guard), deliver((0, 600, 3000), (1, 0, 0)), deliver(self.guard)]
        self.assertEqual(ask(*ready, deliver((0, 700, 3000), (3, 0, 0)))[2:],
                         [[1, 0, 0, 0, 1, 2, -1], [0, 0, 0, 0, 1, 3, -1], [1, 0, 0, 0, 1, 4, -1]])
        # and one that the broken one put out lies there still
        lying = [self.guard, (1, 900, 0)]
        ready = [begin(), deliver(self.guard), deliver(*lying), deliver(*lying), deliver((3, 0, 0))]
        self.assertEqual(ask(*ready, deliver(*lying, (4, 0, 0)))[4:], [[1, 0, 0, 0, 1, 4, -1], [0, 0, 0, 0, 1, 5, -1]])

    def test_it_is_refused_where_it_can_not_lie_so(self):
        self.assertEqual(last(begin(), deliver(self.guard), deliver((2, 0, 0))), [-4])
        self.assertEqual(last(begin(), deliver(self.guard), deliver((1, 0, -1975))), [-4])

    def test_the_end_counts_the_stones_ahead_of_it(self):
        # the side without the hammer has stone 2 in the house; the broken one put it out, but it lies there
        lying = [self.guard, (2, 0, 0)]
        calls = [begin(1), deliver(self.guard), deliver(self.guard), deliver(*lying), deliver((3, 0, 300))]
        calls += [deliver(*lying)] * 12
        self.assertEqual(ask(*calls)[4], [1, 0, 0, 0, 1, 4, -1])
        self.assertEqual(last(*calls), [0, 1, 0, 1, 1, 0, 0])


if __name__ == "__main__":
    unittest.main()
