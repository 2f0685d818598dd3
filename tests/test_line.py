"""The interface: how calls are handed in, how answers are given back."""

import unittest

from curlingmatch.match import answers
from sheet import an_end, begin, deliver, give, last, time


class Answers(unittest.TestCase):
    def test_each_answer_has_its_count_ahead(self):
        calls = [1, 8, 1, 1000, 2, 3, 0, 5, 3000, 3, 1, 40, 4, 0]
        self.assertEqual(answers(calls), [
            1, 0,
            7, 0, 0, 0, 0, 1, 1, -1,
            7, 960, 0, 0, 0, 1, 1, -1,
            7, 0, 0, 0, 0, 1, 1, 1,
        ])

    def test_a_refusal_is_one_number(self):
        self.assertEqual(answers([1, 0, 1, 1000, 2, 0, 3, 0, 5, 4, 2]), [1, -1, 1, -2, 1, -2, 1, -1])

    def test_an_empty_list_of_stones(self):
        self.assertEqual(answers([1, 1, 0, 1, 2, 0, 4, 1]), [1, 0, 7, 0, 0, 0, 0, 0, 1, -1, 7, 0, 0, 0, 0, 0, 1, 0])

    def test_a_refused_list_is_passed_over_whole(self):
        self.assertEqual(answers([2, 4, 1, 8, 1, 1000, 1, 2, 0, 50]), [1, -1, 1, 0])
        self.assertEqual(answers([2, 60] + [1] * 60 + [1, 2, 0, 50]), [1, -2, 1, 0])

    def test_whole_numbers_alone_are_answered(self):
        for number in answers(begin() + deliver((0, 0, 0)) + time(0, 1) + give(0)):
            self.assertIs(type(number), int)

    def test_two_hundred_and_twenty_calls(self):
        calls = begin(12) + deliver() * 219
        given = answers(calls)
        self.assertEqual(len(given), 2 + 219 * 8)
        # 12 ends are 192 deliveries; nobody has points, so a 13th follows and then a 14th.
        self.assertEqual(given[-8:], [7, 0, 0, 0, 13, 1, 11, -1])


class Kept(unittest.TestCase):
    def test_what_is_handed_in_is_not_changed(self):
        calls = begin(1) + [number for call in an_end((1, 0, 0), (2, 500, 0)) for number in call] + time(0, 3)
        copy = list(calls)
        answers(calls)
        self.assertEqual(calls, copy)

    def test_each_line_begins_without_a_match(self):
        answers(begin() + deliver((0, 0, 0)))
        self.assertEqual(answers(deliver()), [1, -2])
        self.assertEqual(answers(time(0, 1)), [1, -2])
        self.assertEqual(answers(give(0)), [1, -2])

    def test_the_same_line_answers_the_same_again(self):
        calls = begin() + deliver((0, 0, 0)) + time(0, 30)
        self.assertEqual(answers(calls), answers(calls))

    def test_an_answer_is_a_list_of_its_own(self):
        first = answers(begin())
        first.append(5)
        self.assertEqual(answers(begin()), [1, 0])

    def test_a_later_match_of_the_line_keeps_nothing_of_the_one_before(self):
        played = [begin(2)] + an_end((1, 0, 0)) + [deliver((0, 0, 0)), time(0, 400)]
        self.assertEqual(last(*played, begin(3, 0, 77), time(0, 0)), [77, 0, 0, 0, 0, 0, -1])
        # stone 0 is the one that's delivered now, not one that lay there
        self.assertEqual(last(*played, begin(3, 0, 77), deliver(), deliver((0, 0, 0))), [-4])


if __name__ == "__main__":
    unittest.main()
