import unittest

from tests.helper import ask, begins, best, best_answer, last, play

WEEK = begins([100, 100, 100])
HUGE = 4294967295


def answered(*told, week=WEEK):
    return last(week, play(*told))


class PlayAnswer(unittest.TestCase):
    def test_its_number(self):
        self.assertEqual(ask(WEEK, play(), play(), play(), play()), [[3], [1], [2], [3], [4]])

    def test_a_fifth_is_refused(self):
        self.assertEqual(ask(WEEK, *[play()] * 6)[4:], [[4], [-5], [-5]])

    def test_the_same_play_may_be_told_twice(self):
        parts = ask(begins([100]), play(brings=[7]), play(brings=[7]), best())
        self.assertEqual(parts[1:], [[1], [2], best_answer(7, 2, [1], [7], 0)])


class PlayBounds(unittest.TestCase):
    def test_what_setting_up_costs(self):
        self.assertEqual(answered(0, 0, 1, 0, 1, [5]), [1])
        self.assertEqual(answered(100000, 0, 1, 0, 1, [5]), [1])
        self.assertEqual(answered(100001, 0, 1, 0, 1, [5]), [-1])
        self.assertEqual(answered(HUGE, 0, 1, 0, 1, [5]), [-1])

    def test_what_striking_costs(self):
        self.assertEqual(answered(0, 100000, 1, 0, 1, [5]), [1])
        self.assertEqual(answered(0, 100001, 1, 0, 1, [5]), [-1])
        self.assertEqual(answered(0, HUGE, 1, 0, 1, [5]), [-1])

    def test_whether_it_may_run(self):
        self.assertEqual(answered(0, 0, 0, 0, 1, [5]), [1])
        self.assertEqual(answered(0, 0, 1, 0, 1, [5]), [1])
        self.assertEqual(answered(0, 0, 2, 0, 1, [5]), [-1])

    def test_how_many_numbers_it_brings(self):
        for size in range(1, 7):
            with self.subTest(size=size):
                self.assertEqual(answered(0, 0, 1, 0, 1, [5] * size), [1])
        for size in (0, 7, 20):
            with self.subTest(size=size):
                self.assertEqual(answered(0, 0, 1, 0, 1, [5] * size), [-1])

    def test_more_numbers_than_nights(self):
        self.assertEqual(answered(0, 0, 1, 0, 1, [6, 5, 4, 3, 2, 1], week=begins([100])), [1])

    def test_each_number_that_it_brings(self):
        self.assertEqual(answered(0, 0, 1, 0, 1, [0]), [1])
        self.assertEqual(answered(0, 0, 1, 0, 1, [100000] * 6), [1])
        for place in range(6):
            for wrong in (100001, HUGE):
                brings = [100000] * 6
                brings[place] = wrong
                with self.subTest(place=place, wrong=wrong):
                    self.assertEqual(answered(0, 0, 1, 0, 1, brings), [-1])

    def test_at_least_against_at_most(self):
        for least, most, answer in ((0, 0, 1), (0, 3, 1), (2, 2, 1), (3, 3, 1), (1, 0, -1), (3, 2, -1), (HUGE, 3, -1)):
            with self.subTest(least=least, most=most):
                self.assertEqual(answered(0, 0, 1, least, most, [5]), [answer])

    def test_at_most_against_the_nights(self):
        for nights in range(1, 7):
            week = begins([100] * nights)
            with self.subTest(nights=nights):
                self.assertEqual(answered(0, 0, 1, 0, nights, [5], week=week), [1])
                self.assertEqual(answered(0, 0, 1, 0, nights + 1, [5], week=week), [-1])
                self.assertEqual(answered(0, 0, 1, nights + 1, nights + 1, [5], week=week), [-1])
        self.assertEqual(answered(0, 0, 1, 0, HUGE, [5]), [-1])

    def test_a_play_that_cannot_be_given_so_often_is_still_taken(self):
        self.assertEqual(answered(0, 0, 0, 3, 3, [5]), [1])

    def test_plays_that_cannot_all_be_given_so_often_are_still_taken(self):
        self.assertEqual(ask(WEEK, play(least=3, most=3), play(least=3, most=3))[1:], [[1], [2]])

    def test_the_numbers_bring_no_order_of_their_own(self):
        self.assertEqual(answered(0, 0, 1, 0, 1, [1, 50, 2]), [1])


class PlayRefusals(unittest.TestCase):
    wrong = [
        play(set_up=100001), play(strike=100001), play(brings=[]), play(brings=[1] * 7),
        play(brings=[1, 100001]), play(least=2, most=1), play(most=4),
    ]

    def test_a_number_not_as_told_comes_ahead_of_four_plays(self):
        four = [play()] * 4
        for told in self.wrong:
            with self.subTest(told=told):
                self.assertEqual(ask(WEEK, *four, told, play())[5:], [[-1], [-5]])

    def test_after_a_refusal_all_is_as_it_was(self):
        first = play(3, 4, 1, 0, 3, [90, 50])
        before = last(WEEK, first, best())
        self.assertEqual(before, best_answer(183, 1, [1, 1, 1], [90, 50, 50], 7))
        for told in self.wrong:
            with self.subTest(told=told):
                self.assertEqual(ask(WEEK, first, told, best(), play())[2:], [[-1], before, [2]])

    def test_after_the_refusal_of_a_fifth_all_is_as_it_was(self):
        four = [play(brings=[number]) for number in (10, 20, 30, 40)]
        fifth = play(brings=[100000])
        parts = ask(WEEK, *four, best(), fifth, best(), begins([100]), fifth)
        self.assertEqual(parts[5], best_answer(90, 6, [2, 3, 4], [20, 30, 40], 0))
        self.assertEqual(parts[6:], [[-5], parts[5], [1], [1]])


class PlayAheadOfBegins(unittest.TestCase):
    def test_at_most_is_above_the_nights(self):
        self.assertEqual(ask(play(most=1)), [[-1]])
        self.assertEqual(ask(play(least=1, most=1), begins([100]), play()), [[-1], [1], [1]])

    def test_one_that_is_never_given(self):
        never = play(9, 9, 1, 0, 0, [5])
        self.assertEqual(ask(*[never] * 5), [[1], [2], [3], [4], [-5]])
        self.assertEqual(ask(never, best()), [[1], best_answer(0, 1, [], [], 0)])

    def test_begins_takes_it_away(self):
        self.assertEqual(ask(play(most=0), begins([100]), play(), best()),
                         [[1], [1], [1], best_answer(100, 1, [1], [100], 0)])
