import unittest

from tests.helper import ask, begins, best, best_answer, check, last, night, play, right_answer, wrong_answer

HUGE = 4294967295


class NightAnswer(unittest.TestCase):
    def test_the_number_told_before(self):
        come = [10, 20, 30, 40, 50, 60]
        for place in range(6):
            with self.subTest(place=place):
                self.assertEqual(last(begins(come), night(place, 300)), [come[place]])

    def test_each_time_the_last_one_told(self):
        self.assertEqual(ask(begins([7, 8]), night(0, 100), night(0, 0), night(0, 300), night(1, 9), night(0, 1)),
                         [[2], [7], [100], [0], [8], [300]])

    def test_0_and_300(self):
        self.assertEqual(ask(begins([300]), night(0, 0), night(0, 300), night(0, 300)), [[1], [300], [0], [300]])

    def test_new_nights_are_told_anew(self):
        self.assertEqual(ask(begins([100]), night(0, 5), begins([70]), night(0, 1)), [[1], [100], [1], [70]])


class NightGoesOn(unittest.TestCase):
    def test_best_goes_by_the_new_number(self):
        parts = ask(begins([100, 100, 100]), play(brings=[50]), best(), night(1, 200), best(), night(1, 50), best())
        self.assertEqual(parts[2:], [
            best_answer(50, 3, [0, 0, 1], [0, 0, 50], 0), [100],
            best_answer(100, 1, [0, 1, 0], [0, 100, 0], 0), [200],
            best_answer(50, 2, [0, 0, 1], [0, 0, 50], 0),
        ])

    def test_check_goes_by_the_new_number(self):
        bill = [1, 1, 0]
        parts = ask(begins([100, 100, 100]), play(3, 4, most=2, brings=[50, 33]),
                    check(bill), night(1, 10), check(bill), night(0, 0), check(bill), night(2, 300), check(bill))
        self.assertEqual(parts[2:], [
            right_answer(bill, [50, 33, 0], 7), [100], right_answer(bill, [50, 3, 0], 7), [100],
            right_answer(bill, [0, 3, 0], 7), [100], right_answer(bill, [0, 3, 0], 7),
        ])

    def test_the_plays_stay(self):
        parts = ask(begins([100]), play(least=1), play(), night(0, 200), play(), check([2]), check([1]))
        self.assertEqual(parts[3:], [[100], [3], wrong_answer(2, 1), right_answer([1], [200], 0)])

    def test_how_many_nights_stays(self):
        parts = ask(begins([100, 100]), night(1, 0), check([0]), check([0, 0]), play(most=3), play(most=2))
        self.assertEqual(parts[2:], [[-1], right_answer([0, 0], [0, 0], 0), [-1], [1]])


class NightRefusals(unittest.TestCase):
    def test_no_such_night(self):
        for nights in range(1, 7):
            for place in (nights, nights + 1, 20, HUGE):
                with self.subTest(nights=nights, place=place):
                    self.assertEqual(last(begins([100] * nights), night(place, 100)), [-2])

    def test_without_nights_there_is_none(self):
        self.assertEqual(ask(night(0, 100), night(1, 100), night(0, 301)), [[-2], [-2], [-2]])
        self.assertEqual(ask(begins([301]), night(0, 100)), [[-1], [-2]])

    def test_above_300(self):
        for come in (301, 302, 1000, HUGE):
            for place in range(3):
                with self.subTest(place=place, come=come):
                    self.assertEqual(last(begins([100] * 3), night(place, come)), [-1])

    def test_no_such_night_is_told_ahead_of_above_300(self):
        for place in (2, 3, HUGE):
            for come in (301, HUGE):
                with self.subTest(place=place, come=come):
                    self.assertEqual(last(begins([100] * 2), night(place, come)), [-2])

    def test_all_is_as_it_was(self):
        week = [begins([10, 250]), play(1, 2, most=2, brings=[100])]
        asked = [best(), check([1, 1]), night(0, 20), night(1, 30)]
        before = ask(*week, *asked)[2:]
        self.assertEqual(before, [best_answer(257, 1, [1, 1], [10, 250], 3), right_answer([1, 1], [10, 250], 3),
                                  [10], [250]])
        for refused, answer in ((night(2, 100), -2), (night(HUGE, 100), -2), (night(0, 301), -1), (night(1, 301), -1),
                                (night(2, 301), -2)):
            with self.subTest(refused=refused):
                self.assertEqual(ask(*week, refused, *asked)[2:], [[answer]] + before)
