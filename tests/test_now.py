"""Promise 3: now."""

import unittest

from sheet import ahead, an_end, ask, begin, deliver, give, last, now, time, told


class NoMatch(unittest.TestCase):
    def test_none_is_there(self):
        self.assertEqual(ask(now(), deliver(), time(0, 1), give(0), now()), [[-2]] * 5)

    def test_behind_a_begin_that_was_refused(self):
        self.assertEqual(ask(begin(0), now(), begin(hammer=2), now(), begin(time=0), now()), [[-1], [-2]] * 3)


class Now(unittest.TestCase):
    def test_a_match_that_has_just_begun(self):
        self.assertEqual(last(begin(8, 1, 1000), now()), [0, 0, 0, 0, 1, 0, -1, 0, 1000, 1000])
        self.assertEqual(last(begin(1, 0, 1), now()), [0, 0, 0, 0, 0, 0, -1, 1, 1, 1])

    def test_how_it_stands(self):
        played = [begin(8, 1)] + an_end((1, 0, 0), (3, 400, 0)) + an_end((0, 0, 0), (2, 400, 0), (4, 800, 0))
        self.assertEqual(last(*played, now()), [0, 0, 5, 2, 0, 0, -1, 1, 1000, 1000])
        self.assertEqual(last(*played, *an_end((1, 0, 0)), deliver(), now()), [0, 1, 5, 3, 1, 1, -1, 1, 1000, 1000])

    def test_it_is_as_the_call_ahead_told(self):
        played = [begin(2, 0)] + an_end((1, 0, 0)) + [deliver((0, 0, 0)), time(1, 7)]
        self.assertEqual(ask(*played, now())[-1][1:7], last(*played)[1:])

    def test_it_changes_nothing(self):
        played = [begin()] + an_end((1, 0, 0)) + [deliver((0, 0, 0)), now(), now(), deliver((1, 500, 0), (0, 0, 0))]
        given = ask(*played)
        self.assertEqual(given[-3], given[-2])
        self.assertEqual(given[-1], [0, 0, 1, 1, 0, 2, -1])


class DeliversNext(unittest.TestCase):
    def next_side(self, *calls):
        return last(*calls, now())[7]

    def test_behind_so_many(self):
        for hammer in (0, 1):
            for count in range(33):
                side = hammer if count % 2 == 1 else 1 - hammer
                self.assertEqual(self.next_side(begin(8, hammer), *ahead(count)), side, count)

    def test_behind_an_end_that_passes_the_hammer(self):
        self.assertEqual(self.next_side(begin(8, 1), *an_end((1, 0, 0))), 1)
        self.assertEqual(self.next_side(begin(8, 1), *an_end((1, 0, 0)), deliver()), 0)
        self.assertEqual(self.next_side(begin(8, 0), *an_end((1, 0, 0))), 0)

    def test_behind_a_delivery_that_broke_the_rule(self):
        self.assertEqual(self.next_side(begin(8, 1), deliver((0, 0, 3000)), deliver()), 0)

    def test_behind_a_refused_one(self):
        self.assertEqual(self.next_side(begin(8, 1), deliver((1, 0, 0))), 0)
        self.assertEqual(self.next_side(begin(8, 1), deliver(), told([1])), 1)


class Seconds(unittest.TestCase):
    def left(self, *calls):
        return last(*calls, now())[8:]

    def test_side_0_s_then_side_1_s(self):
        self.assertEqual(self.left(begin(time=500), time(0, 30)), [470, 500])
        self.assertEqual(self.left(begin(time=500), time(1, 30)), [500, 470])
        self.assertEqual(self.left(begin(time=500), time(1, 30), time(0, 4), time(1, 100)), [496, 370])

    def test_none_goes_by_itself(self):
        self.assertEqual(self.left(begin(2, 1, 500), *ahead(20)), [500, 500])

    def test_270_more(self):
        tied = [begin(1, 1, 500), time(0, 499), time(1, 20)] + ahead(16)
        self.assertEqual(self.left(*tied), [271, 750])
        self.assertEqual(self.left(*tied, *ahead(15)), [271, 750])
        self.assertEqual(self.left(*tied, *ahead(16)), [541, 1020])

    def test_no_more_where_one_has_won(self):
        self.assertEqual(self.left(begin(1, 1, 500), *an_end((0, 0, 0))), [500, 500])

    def test_none_below_0(self):
        self.assertEqual(self.left(begin(time=500), time(1, 501)), [500, 0])

    def test_a_refused_time_takes_none(self):
        self.assertEqual(self.left(begin(time=500), time(0, 10001), time(2, 3), give(0), time(1, 3)), [500, 500])

    def test_a_refused_begin_gives_none(self):
        self.assertEqual(self.left(begin(time=500), time(0, 3), begin(13, 1, 900)), [497, 500])


class Over(unittest.TestCase):
    def test_by_the_last_end(self):
        self.assertEqual(last(begin(1, 1), *an_end((1, 0, 0)), now()), [1, 0, 1, 1, 0, 0, 1, 1, 1000, 1000])
        self.assertEqual(last(begin(1, 1), *an_end((0, 0, 0)), now()), [1, 1, 0, 1, 1, 0, 0, 0, 1000, 1000])

    def test_not_by_an_end_of_as_many_points(self):
        self.assertEqual(last(begin(1, 1), *ahead(16), now())[0], 0)

    def test_by_time(self):
        ended = [begin(3, 1, 500), deliver((0, 0, 0)), time(0, 500)]
        self.assertEqual(last(*ended, now()), [1, 0, 0, 0, 1, 1, 1, 1, 0, 500])

    def test_by_give(self):
        played = [begin(3, 0, 500)] + an_end((1, 0, 0)) + ahead(2)
        self.assertEqual(last(*played, give(0), now()), [1, 1, 0, 1, 1, 2, 1, 0, 500, 500])
        self.assertEqual(last(*played, give(1), now()), [1, 1, 0, 1, 1, 2, 0, 0, 500, 500])

    def test_refused_calls_leave_it(self):
        ended = [begin(), time(1, 100), give(1)]
        refused = [deliver((0, 0, 0)), time(0, 5), give(0), begin(0)]
        self.assertEqual(last(*ended, *refused, now()), last(*ended, now()))

    def test_a_new_match_is_not(self):
        self.assertEqual(last(begin(), give(1), begin(2, 0, 60), now()), [0, 0, 0, 0, 0, 0, -1, 1, 60, 60])


if __name__ == "__main__":
    unittest.main()
