import unittest

from tests.helper import ask, begins, best, best_answer, check, drop, last, night, play, right_answer, wrong_answer

HUGE = 4294967295
# plays that can be told from each other by what they bring
FOUR = [play(brings=[10]), play(brings=[20]), play(brings=[30]), play(brings=[40])]


def brought(*calls):
    """What each of the plays brings that there are behind these calls, in their order."""
    found = []
    for number in range(1, 5):
        answer = last(*calls, check([number]))
        if answer != [-1]:
            found.append(answer[4])
    return found


class DropAnswer(unittest.TestCase):
    def test_how_many_plays_are_left(self):
        for count in range(1, 5):
            for number in range(1, count + 1):
                with self.subTest(count=count, number=number):
                    self.assertEqual(last(begins([100]), *FOUR[:count], drop(number)), [count - 1])

    def test_one_behind_another(self):
        self.assertEqual(ask(begins([100]), *FOUR, drop(1), drop(1), drop(1), drop(1), drop(1))[5:],
                         [[3], [2], [1], [0], [-2]])
        self.assertEqual(ask(begins([100]), *FOUR, drop(4), drop(4), drop(3), drop(1), drop(2), drop(1))[5:],
                         [[3], [-2], [2], [1], [-2], [0]])


class ThoseBehindMoveUp(unittest.TestCase):
    def test_which_plays_there_are(self):
        for number, left in ((1, [20, 30, 40]), (2, [10, 30, 40]), (3, [10, 20, 40]), (4, [10, 20, 30])):
            with self.subTest(number=number):
                self.assertEqual(brought(begins([100]), *FOUR, drop(number)), left)

    def test_two_dropped(self):
        self.assertEqual(brought(begins([100]), *FOUR, drop(2), drop(2)), [10, 40])
        self.assertEqual(brought(begins([100]), *FOUR, drop(1), drop(3)), [20, 30])

    def test_best_goes_by_the_new_numbers(self):
        parts = ask(begins([100, 200]), *FOUR, best(), drop(3), best(), drop(3), best(), drop(1), drop(1), best())
        self.assertEqual(parts[5:], [
            best_answer(110, 1, [3, 4], [30, 80], 0), [3],
            best_answer(100, 1, [2, 3], [20, 80], 0), [2],
            best_answer(50, 1, [1, 2], [10, 40], 0), [1], [0],
            best_answer(0, 1, [0, 0], [0, 0], 0),
        ])

    def test_check_goes_by_the_new_numbers(self):
        plays = [play(1, 2, most=2, brings=[10]), play(3, 4, 0, 1, 2, [20])]
        parts = ask(begins([100, 100]), *plays, check([1, 2]), check([2, 2]), check([1, 1]), drop(1),
                    check([0, 1]), check([1, 1]), check([0, 0]), check([2, 1]))
        self.assertEqual(parts[3:], [
            right_answer([1, 2], [10, 20], 10), wrong_answer(1, 1), wrong_answer(2, 2), [1],
            right_answer([0, 1], [0, 20], 7), wrong_answer(1, 1), wrong_answer(2, 1), [-1],
        ])

    def test_what_was_asked_of_the_dropped_one_is_asked_no_more(self):
        parts = ask(begins([100]), play(least=1), play(least=1), best(), check([1]), drop(2), best(), check([1]))
        self.assertEqual(parts[3:], [[0], wrong_answer(2, 2), [1], best_answer(100, 1, [1], [100], 0),
                                     right_answer([1], [100], 0)])

    def test_a_play_may_be_told_again(self):
        parts = ask(begins([100]), *FOUR, play(), drop(2), play(brings=[50]), play(), check([2]), check([4]), best())
        self.assertEqual(parts[5:], [[-5], [3], [4], [-5], right_answer([2], [30], 0), right_answer([4], [50], 0),
                                     best_answer(50, 1, [4], [50], 0)])

    def test_after_the_last_one_the_next_is_the_first(self):
        self.assertEqual(ask(begins([100]), play(), drop(1), play(brings=[7]), check([1]))[2:],
                         [[0], [1], right_answer([1], [7], 0)])

    def test_the_nights_stay(self):
        parts = ask(begins([10, 20]), play(), play(), drop(1), check([0]), check([1, 0]), night(0, 1), night(1, 1))
        self.assertEqual(parts[3:], [[1], [-1], right_answer([1, 0], [10, 0], 0), [10], [20]])

    def test_of_two_alike_one_is_left(self):
        parts = ask(begins([100]), play(brings=[5]), play(brings=[5]), best(), drop(1), best())
        self.assertEqual(parts[3:], [best_answer(5, 2, [1], [5], 0), [1], best_answer(5, 1, [1], [5], 0)])


class DropRefusals(unittest.TestCase):
    def test_play_0_is_none(self):
        for count in range(5):
            with self.subTest(count=count):
                self.assertEqual(last(begins([100]), *FOUR[:count], drop(0)), [-2])

    def test_above_the_plays(self):
        for count in range(5):
            for number in (count + 1, count + 2, 20, HUGE):
                with self.subTest(count=count, number=number):
                    self.assertEqual(last(begins([100]), *FOUR[:count], drop(number)), [-2])

    def test_without_nights(self):
        never = play(most=0)
        self.assertEqual(ask(drop(0), drop(1), never, drop(2), drop(1), drop(1)), [[-2], [-2], [1], [-2], [0], [-2]])

    def test_begins_leaves_no_play_to_drop(self):
        self.assertEqual(ask(begins([100]), play(), begins([100]), drop(1)), [[1], [1], [1], [-2]])

    def test_all_is_as_it_was(self):
        asked = [best(), check([1, 2]), check([2, 0]), play(brings=[60])]
        before = ask(begins([100, 200]), *FOUR[:2], *asked)[3:]
        for number in (0, 3, 4, HUGE):
            with self.subTest(number=number):
                self.assertEqual(ask(begins([100, 200]), *FOUR[:2], drop(number), *asked)[3:], [[-2]] + before)
