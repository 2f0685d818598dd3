"""Promise 3: scores and shot."""

import unittest

from sheet import ahead, an_end, ask, begin, deliver, give, last, now, scores, shot, stones, time


def shot_at(*lying, hammer=1):
    """What is answered while so many stones of an end lie."""
    return last(begin(8, hammer), *an_end(*lying)[:15], shot())


class NoMatch(unittest.TestCase):
    def test_none_is_there(self):
        self.assertEqual(ask(scores(), shot(), deliver(), scores(), shot()), [[-2]] * 5)

    def test_behind_a_begin_that_was_refused(self):
        self.assertEqual(ask(begin(hammer=-1), scores(), shot()), [[-1], [-2], [-2]])

    def test_a_match_once_begun_is_there(self):
        self.assertEqual(ask(begin(), begin(0), scores(), shot()), [[0], [-1], [0], [0, 0, 0]])


class Scores(unittest.TestCase):
    def test_no_end_over(self):
        self.assertEqual(last(begin(), scores()), [0])
        self.assertEqual(last(begin(), *an_end((1, 0, 0))[:15], scores()), [0])

    def test_one_end(self):
        self.assertEqual(last(begin(8, 1), *an_end((1, 0, 0), (3, 400, 0)), scores()), [1, 0, 2])
        self.assertEqual(last(begin(8, 0), *an_end((1, 0, 0), (3, 400, 0)), scores()), [1, 2, 0])

    def test_an_end_in_which_nobody_has_points(self):
        self.assertEqual(last(begin(), *ahead(16), scores()), [1, 0, 0])
        self.assertEqual(last(begin(), *an_end((0, 500, 0), (1, -500, 0)), scores()), [1, 0, 0])

    def test_several_in_their_order(self):
        played = [begin(8, 1)] + an_end((1, 0, 0)) + ahead(16) + an_end((0, 0, 0), (2, 400, 0), (4, 800, 0))
        # side 0 has the hammer from the first end on, and keeps it: side 1 has the three
        self.assertEqual(last(*played, scores()), [3, 0, 1, 0, 0, 0, 3])
        played += an_end((1, 0, 0), (3, 400, 0)) + ahead(3)
        self.assertEqual(last(*played, scores()), [4, 0, 1, 0, 0, 0, 3, 2, 0])

    def test_an_end_more_behind_as_many_points(self):
        played = [begin(2, 1)] + an_end((1, 0, 0)) + an_end((1, 0, 0))
        self.assertEqual(last(*played, scores()), [2, 0, 1, 1, 0])
        self.assertEqual(last(*played, *ahead(16), scores()), [3, 0, 1, 1, 0, 0, 0])
        self.assertEqual(last(*played, *ahead(16), *an_end((1, 0, 0)), scores()), [4, 0, 1, 1, 0, 0, 0, 0, 1])

    def test_over_by_the_last_end(self):
        self.assertEqual(last(begin(1), *an_end((0, 0, 0)), scores()), [1, 1, 0])

    def test_over_by_time_or_give(self):
        played = [begin(3)] + an_end((1, 0, 0)) + [deliver((0, 0, 0))]
        for ending in (time(0, 1000), time(1, 1000), give(0), give(1)):
            self.assertEqual(last(*played, ending, scores()), [1, 0, 1])
        self.assertEqual(last(begin(), give(0), scores()), [0])

    def test_a_new_match_has_none(self):
        self.assertEqual(last(begin(), *ahead(16), begin(), scores()), [0])

    def test_thirteen_ends(self):
        self.assertEqual(last(begin(12), *ahead(208), scores()), [13] + [0, 0] * 13)

    def test_it_changes_nothing(self):
        played = [begin(1)] + an_end((1, 0, 0))[:15]
        given = ask(*played, scores(), scores(), deliver((15, 300, 0), (1, 0, 0)), scores())
        self.assertEqual(given[-4:], [[0], [0], [0, 0, 2, 1, 0, 0, 1], [1, 0, 2]])


class Shot(unittest.TestCase):
    def test_no_stone_in_play(self):
        self.assertEqual(last(begin(), shot()), [0, 0, 0])
        self.assertEqual(last(begin(), deliver(), shot()), [0, 0, 0])

    def test_none_in_the_house(self):
        self.assertEqual(shot_at((0, 0, 1975), (1, 1975, 0), (2, 0, 3000)), [0, 0, 0])

    def test_one_side_alone(self):
        self.assertEqual(shot_at((1, 0, 0), (3, 1974, 0), (5, 0, 1975)), [2, 0, 2])
        self.assertEqual(shot_at((0, 0, 0)), [1, 1, 0])
        self.assertEqual(shot_at((1, 0, 0), (0, 0, 1975)), [1, 0, 1])

    def test_either_hammer(self):
        self.assertEqual(shot_at((0, 0, 0), (2, 400, 0), hammer=1), [2, 2, 0])
        self.assertEqual(shot_at((0, 0, 0), (2, 400, 0), hammer=0), [2, 0, 2])
        self.assertEqual(shot_at((1, 0, 0), (3, 400, 0), hammer=0), [2, 2, 0])

    def test_both(self):
        own = [(1, 300, 0), (3, -700, 0), (5, 0, 1100)]
        self.assertEqual(shot_at((0, 0, -200), *own), [1, 1, 0])
        self.assertEqual(shot_at((0, 0, -500), *own), [1, 0, 1])
        self.assertEqual(shot_at((0, 0, -900), *own), [2, 0, 2])
        self.assertEqual(shot_at((0, 0, -1101), *own), [3, 0, 3])

    def test_as_near_as_the_other_s_nearest_does_not_count(self):
        self.assertEqual(shot_at((0, 0, -1100), (1, 300, 0), (3, -700, 0), (5, 0, 1100)), [2, 0, 2])
        self.assertEqual(shot_at((0, 300, 0), (2, 0, -1100), (1, 0, 1100)), [1, 1, 0])

    def test_nearest_ones_as_near(self):
        self.assertEqual(shot_at((0, 500, 0), (1, -500, 0)), [0, 0, 0])
        self.assertEqual(shot_at((0, 300, 400), (1, -500, 0), (3, 0, 900)), [0, 0, 0])

    def test_as_the_stones_lie_behind_each_delivery(self):
        calls = [begin(), deliver((0, 0, 0)), shot(), deliver((0, 0, -900), (1, 0, 0)), shot()]
        calls += [deliver((2, 100, 0), (0, 0, -900)), shot(), deliver((0, 0, -900)), shot()]
        self.assertEqual(ask(*calls)[2::2], [[1, 1, 0], [1, 0, 1], [2, 2, 0], [1, 1, 0]])

    def test_behind_a_delivery_that_broke_the_rule(self):
        # the guard is put out, so stone 1 doesn't lie on the tee
        given = ask(begin(), deliver((0, 0, 3000)), deliver((1, 0, 0)), shot())
        self.assertEqual(given[2:], [[1, 0, 0, 0, 1, 2, -1], [0, 0, 0]])

    def test_behind_an_end_none_lie(self):
        self.assertEqual(last(begin(), *an_end((1, 0, 0)), shot()), [0, 0, 0])

    def test_over_by_the_last_end(self):
        self.assertEqual(last(begin(1), *an_end((1, 0, 0)), shot()), [0, 0, 0])

    def test_over_by_time_or_give(self):
        played = [begin(3)] + an_end((1, 0, 0)) + [deliver((0, 0, 0)), deliver((0, 0, 0), (1, 900, 0))]
        for ending in (time(0, 1000), time(1, 1000), give(0), give(1)):
            self.assertEqual(last(*played, ending, shot()), [1, 0, 1])

    def test_it_changes_nothing(self):
        played = [begin(1)] + an_end((1, 0, 0))[:15]
        looked = [now(), stones(), scores()]
        given = ask(*played, *looked, shot(), shot(), *looked, deliver((1, 0, 0)))
        self.assertEqual(given[-9:-6], given[-4:-1])
        self.assertEqual(given[-6:-4], [[1, 0, 1], [1, 0, 1]])
        self.assertEqual(given[-1], [0, 0, 1, 1, 0, 0, 1])


if __name__ == "__main__":
    unittest.main()
