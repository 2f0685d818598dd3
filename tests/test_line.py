"""The interface: how calls are handed in, how answers are given back."""

import unittest

from curlingmatch.match import answers
from sheet import ahead, an_end, ask, begin, deliver, give, last, now, scores, shot, stones, time

LOOKS = now() + stones() + scores() + shot()


class Answers(unittest.TestCase):
    def test_each_answer_has_its_count_ahead(self):
        calls = [1, 8, 1, 1000, 2, 3, 0, 5, 3000, 3, 1, 40, 4, 0]
        self.assertEqual(answers(calls), [
            1, 0,
            7, 0, 0, 0, 0, 1, 1, -1,
            7, 960, 0, 0, 0, 1, 1, -1,
            7, 0, 0, 0, 0, 1, 1, 1,
        ])

    def test_calls_with_no_numbers_behind_them(self):
        self.assertEqual(answers([1, 2, 1, 900, 2, 3, 0, 5, 3000, 5, 6, 7, 8]), [
            1, 0,
            7, 0, 0, 0, 0, 1, 1, -1,
            10, 0, 0, 0, 0, 1, 1, -1, 1, 900, 900,
            7, 1, 0, 0, 5, 3000, 0, 1,
            1, 0,
            3, 0, 0, 0,
        ])
        self.assertEqual(answers([8, 7, 6, 5]), [1, -2] * 4)
        self.assertEqual(answers([6]), [1, -2])

    def test_a_refusal_is_one_number(self):
        self.assertEqual(answers([1, 0, 1, 1000, 2, 0, 3, 0, 5, 4, 2]), [1, -1, 1, -2, 1, -2, 1, -1])

    def test_an_empty_list_of_stones(self):
        self.assertEqual(answers([1, 1, 0, 1, 2, 0, 4, 1]), [1, 0, 7, 0, 0, 0, 0, 0, 1, -1, 7, 0, 0, 0, 0, 0, 1, 0])

    def test_a_refused_list_is_passed_over_whole(self):
        self.assertEqual(answers([2, 4, 1, 8, 1, 1000, 1, 2, 0, 50]), [1, -1, 1, 0])
        self.assertEqual(answers([2, 60] + [1] * 60 + [1, 2, 0, 50]), [1, -2, 1, 0])

    def test_whole_numbers_alone_are_answered(self):
        for number in answers(begin() + deliver((0, 0, 0)) + LOOKS + time(0, 1) + give(0) + LOOKS):
            self.assertIs(type(number), int)

    def test_two_hundred_and_twenty_calls(self):
        calls = begin(12) + deliver() * 219
        given = answers(calls)
        self.assertEqual(len(given), 2 + 219 * 8)
        # 12 ends are 192 deliveries; nobody has points, so a 13th follows and then a 14th.
        self.assertEqual(given[-8:], [7, 0, 0, 0, 13, 1, 11, -1])

    def test_two_hundred_and_twenty_calls_that_look(self):
        self.assertEqual(answers(LOOKS * 55), [1, -2] * 220)
        self.assertEqual(ask(begin(), *[scores()] * 219), [[0]] * 220)


class Kept(unittest.TestCase):
    def test_what_is_handed_in_is_not_changed(self):
        calls = begin(1) + [number for call in an_end((1, 0, 0), (2, 500, 0)) for number in call] + time(0, 3)
        calls += begin(2) + deliver((0, 0, 3000)) + deliver((1, 0, 0)) + LOOKS + give(1) + LOOKS
        copy = list(calls)
        answers(calls)
        self.assertEqual(calls, copy)

    def test_each_line_begins_without_a_match(self):
        answers(begin() + deliver((0, 0, 0)))
        self.assertEqual(answers(deliver()), [1, -2])
        self.assertEqual(answers(time(0, 1)), [1, -2])
        self.assertEqual(answers(give(0)), [1, -2])
        self.assertEqual(answers(LOOKS), [1, -2] * 4)

    def test_the_same_line_answers_the_same_again(self):
        calls = begin() + deliver((0, 0, 0)) + time(0, 30) + LOOKS
        self.assertEqual(answers(calls), answers(calls))

    def test_an_answer_is_a_list_of_its_own(self):
        first = answers(begin())
        first.append(5)
        self.assertEqual(answers(begin()), [1, 0])

    def test_a_later_match_of_the_line_keeps_nothing_of_the_one_before(self):
        played = [begin(2)] + an_end((1, 0, 0)) + [deliver((0, 0, 0)), time(0, 400)]
        self.assertEqual(last(*played, begin(3, 0, 77), time(0, 0)), [77, 0, 0, 0, 0, 0, -1])
        # stone 0 is the one that's delivered now, not one that lay there
        self.assertEqual(last(*played, begin(3, 0, 77), deliver(), deliver((0, 0, 0))), [-4])
        given = ask(*played, begin(3, 0, 77), now(), stones(), scores(), shot())
        self.assertEqual(given[-4:], [[0, 0, 0, 0, 0, 0, -1, 1, 77, 77], [0], [0], [0, 0, 0]])


class AWholeMatch(unittest.TestCase):
    def test_all_eight_calls(self):
        guard = (0, 0, 3000)
        lying = [guard, (2, 0, 600), (3, -500, 0)]
        played = [
            (now(), [-2]),
            (begin(1, 0, 300), [0]),
            (time(1, 20), [280, 0, 0, 0, 0, 0, -1]),
            (deliver(guard), [0, 0, 0, 0, 0, 1, -1]),
            (deliver((1, 0, 0)), [1, 0, 0, 0, 0, 2, -1]),
            (stones(), [1, 0, 1, 0, 3000, 0, 1]),
            (deliver(*lying[:2]), [0, 0, 0, 0, 0, 3, -1]),
            (time(0, 290), [10, 0, 0, 0, 0, 3, -1]),
            (deliver(*lying), [0, 0, 0, 0, 0, 4, -1]),
            (shot(), [1, 1, 0]),
            (deliver((4, 0, -400), *lying[1:]), [0, 0, 0, 0, 0, 5, -1]),
            (shot(), [1, 0, 1]),
            (deliver(guard), [-4]),
            (give(2), [-1]),
            (scores(), [0]),
            (stones(), [3, 4, 1, 0, -400, 1, 0, 2, 1, 0, 600, 1, 0, 3, 0, -500, 0, 1, 0]),
        ]
        played += [(call, [0, 0, 0, 0, 0, number, -1]) for number, call in zip(range(6, 16), ahead(10))]
        played += [
            (now(), [0, 0, 0, 0, 0, 15, -1, 0, 10, 280]),
            (deliver(), [0, 0, 0, 1, 0, 0, -1]),
            (now(), [0, 0, 0, 1, 0, 0, -1, 1, 280, 550]),
        ]
        played += [(call, [0, 0, 0, 1, 0, number, -1]) for number, call in zip(range(1, 16), ahead(15))]
        played += [
            (deliver((15, 1974, 0)), [0, 1, 0, 2, 1, 0, 0]),
            (now(), [1, 1, 0, 2, 1, 0, 0, 0, 280, 550]),
            (scores(), [2, 0, 0, 1, 0]),
            (stones(), [0]),
            (shot(), [0, 0, 0]),
            (deliver(), [-2]),
            (time(0, 10001), [-1]),
            (give(1), [-2]),
        ]
        given = ask(*[call for call, answer in played])
        for place, (call, answer) in enumerate(played):
            self.assertEqual(given[place], answer, place)


if __name__ == "__main__":
    unittest.main()
