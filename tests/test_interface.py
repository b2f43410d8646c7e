import unittest

from weekplays.house import answers

WEEK = [0, 2, 100, 200]
PLAY = [1, 10, 20, 1, 0, 2, 2, 500, 300]
BEST = [2]
BEST_ANSWER = [1070, 1, 1, 2, 1, 1, 2, 500, 600, 2, 1100, 30]


class TheOneList(unittest.TestCase):
    def test_a_single_call(self):
        self.assertEqual(answers(WEEK), [1, 2])
        self.assertEqual(answers(BEST), [8, 0, 1, 1, 0, 0, 2, 0, 0])

    def test_several_calls_behind_one_another(self):
        self.assertEqual(answers(WEEK + PLAY + BEST), [1, 2, 1, 1, 12] + BEST_ANSWER)

    def test_a_refusal_is_one_number_and_the_calls_go_on(self):
        refused = [0, 7] + [100] * 7
        self.assertEqual(answers(WEEK + refused + PLAY + BEST), [1, 2, 1, -1, 1, 1, 12] + BEST_ANSWER)
        self.assertEqual(answers(WEEK + [1, 0, 0, 1, 0, 0, 0] + PLAY + BEST),
                         [1, 2, 1, -1, 1, 1, 12] + BEST_ANSWER)

    def test_refused_rows_of_twenty_are_read_to_their_end(self):
        calls = [0, 20] + [2] * 20 + WEEK + [1, 0, 0, 1, 0, 0, 20] + [2] * 20 + PLAY
        self.assertEqual(answers(calls), [1, -1, 1, 2, 1, -1, 1, 1])

    def test_an_empty_row(self):
        self.assertEqual(answers([0, 0] + WEEK), [1, -1, 1, 2])

    def test_no_right_bill_is_0_alone(self):
        self.assertEqual(answers([0, 1, 100, 1, 0, 0, 1, 1, 1, 1, 5, 1, 0, 0, 1, 1, 1, 1, 5, 2, 2]),
                         [1, 1, 1, 1, 1, 2, 1, 0, 1, 0])

    def test_forty_calls(self):
        self.assertEqual(answers(WEEK + PLAY + BEST * 38), [1, 2, 1, 1] + ([12] + BEST_ANSWER) * 38)
        self.assertEqual(answers(WEEK * 40), [1, 2] * 40)

    def test_plays_may_be_told_between_bests(self):
        calls = WEEK + BEST + PLAY + BEST
        self.assertEqual(answers(calls), [1, 2, 12, 0, 1, 1, 2, 0, 0, 2, 0, 0, 2, 0, 0, 1, 1, 12] + BEST_ANSWER)

    def test_check_night_and_drop_among_the_others(self):
        right = [1, 2, 1, 1, 2, 500, 600, 2, 1100, 30]
        calls = WEEK + PLAY + [3, 2, 1, 1] + [4, 1, 50] + [3, 2, 0, 1] + [5, 1] + [3, 2, 0, 1] + WEEK + [4, 2, 301]
        self.assertEqual(answers(calls), [1, 2, 1, 1, 10] + right + [1, 200] + [10, 1, 2, 0, 1, 2, 0, 250, 2, 250, 30]
                         + [1, 0, 1, -1, 1, 2, 1, -2])

    def test_what_is_wrong_with_a_bill_is_a_list(self):
        self.assertEqual(answers(WEEK + [1, 0, 0, 0, 1, 1, 1, 5] + [3, 2, 0, 0] + [3, 2, 1, 1]),
                         [1, 2, 1, 1, 4, 0, 2, 2, 1, 4, 0, 2, 1, 1])

    def test_refused_bills_are_read_to_their_end(self):
        self.assertEqual(answers(WEEK + [3, 20] + [2] * 20 + [3, 0] + PLAY), [1, 2, 1, -1, 1, -1, 1, 1])

    def test_forty_of_each_call(self):
        self.assertEqual(answers([3, 0] * 40), [6, 1, 0, 0, 2, 0, 0] * 40)
        self.assertEqual(answers([4, 0, 0] * 40), [1, -2] * 40)
        self.assertEqual(answers([5, 1] * 40), [1, -2] * 40)
        self.assertEqual(answers(WEEK + [4, 0, 5] * 39), [1, 2, 1, 100] + [1, 5] * 38)

    def test_whole_numbers_in_a_list(self):
        answered = answers(WEEK + PLAY + PLAY + BEST + [3, 2, 1, 1, 3, 2, 1, 2, 4, 0, 9, 5, 1, 0, 0])
        self.assertIs(type(answered), list)
        self.assertEqual({type(number) for number in answered}, {int})


class NothingElse(unittest.TestCase):
    def test_what_was_handed_in_is_as_it_was(self):
        for calls in (WEEK + PLAY + BEST, WEEK + PLAY * 5 + BEST * 2 + [0, 0], BEST):
            copy = list(calls)
            answers(calls)
            self.assertEqual(calls, copy)

    def test_what_is_given_back_is_another_list(self):
        calls = WEEK + PLAY + BEST
        first = answers(calls)
        second = answers(calls)
        self.assertIsNot(first, calls)
        self.assertIsNot(first, second)
        first.clear()
        self.assertEqual(second, [1, 2, 1, 1, 12] + BEST_ANSWER)

    def test_two_askings_do_not_know_of_each_other(self):
        empty = answers(BEST)
        answers(WEEK + PLAY * 4)
        self.assertEqual(answers(BEST), empty)
        self.assertEqual(answers(PLAY), [1, -1])
        self.assertEqual(answers(WEEK + PLAY), [1, 2, 1, 1])

    def test_the_same_calls_are_answered_alike(self):
        calls = WEEK + PLAY + BEST + PLAY + BEST
        self.assertEqual(answers(calls), answers(calls))
