import unittest

from tests.helper import ask, begins, best, best_answer, last, play

TOLD = [begins([100, 250]), play(10, 5, 1, 0, 2, [1000, 400])]


class BeginsAnswer(unittest.TestCase):
    def test_how_many_nights(self):
        for nights in range(1, 7):
            with self.subTest(nights=nights):
                self.assertEqual(ask(begins([100] * nights)), [[nights]])

    def test_no_night_and_seven_are_refused(self):
        self.assertEqual(ask(begins([])), [[-1]])
        self.assertEqual(ask(begins([100] * 7)), [[-1]])
        self.assertEqual(ask(begins([0] * 20)), [[-1]])

    def test_nobody_and_300_may_come(self):
        self.assertEqual(ask(begins([0, 300])), [[2]])
        self.assertEqual(ask(begins([300] * 6)), [[6]])

    def test_301_is_refused_on_whichever_night(self):
        for night in range(6):
            come = [300] * 6
            come[night] = 301
            with self.subTest(night=night):
                self.assertEqual(ask(begins(come)), [[-1]])
        self.assertEqual(ask(begins([301])), [[-1]])
        self.assertEqual(ask(begins([4294967295])), [[-1]])

    def test_too_many_nights_with_too_many_people(self):
        self.assertEqual(ask(begins([301] * 7)), [[-1]])


class BeginsState(unittest.TestCase):
    def test_there_are_no_plays_afterwards(self):
        self.assertEqual(last(*TOLD, begins([100, 100]), best()), best_answer(0, 1, [0, 0], [0, 0], 0))

    def test_the_next_play_is_the_first_again(self):
        four = [play()] * 4
        self.assertEqual(ask(begins([100]), *four, begins([100]), *four, play()),
                         [[1], [1], [2], [3], [4], [1], [1], [2], [3], [4], [-5]])

    def test_the_nights_are_the_new_ones(self):
        asked = [begins([100, 100, 100]), begins([50]), play(brings=[1000]), best()]
        self.assertEqual(last(*asked), best_answer(500, 1, [1], [500], 0))

    def test_after_a_refusal_all_is_as_it_was(self):
        before = last(*TOLD, best())
        self.assertEqual(before, best_answer(2485, 1, [0, 1], [0, 2500], 15))
        for come in ([], [0] * 7, [301], [100, 301], [10, 10, 10, 10, 10, 999]):
            with self.subTest(come=come):
                parts = ask(*TOLD, begins(come), best(), play(most=2), best())
                self.assertEqual(parts[2:5], [[-1], before, [2]])

    def test_a_refused_first_one_leaves_no_nights(self):
        self.assertEqual(ask(begins([0] * 7), best(), play(most=1)), [[-1], best_answer(0, 1, [], [], 0), [-1]])
