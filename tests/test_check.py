import unittest

from tests.helper import ask, begins, best, best_answer, check, drop, last, night, play, right_answer, wrong_answer

NIGHT = 1
SELDOM = 2
OFTEN = 3
HUGE = 4294967295


def check_of(bill, come, *plays):
    return last(begins(come), *plays, check(bill))


class RightBills(unittest.TestCase):
    def test_the_three_lists(self):
        plays = [play(10, 20, 1, 0, 2, [500, 300]), play(1, 2, 0, 0, 3, [70])]
        self.assertEqual(check_of([1, 1, 2], [100, 200, 50], *plays),
                         [1, 3, 1, 1, 2, 3, 500, 600, 35, 2, 1135, 33])

    def test_a_bill_need_not_be_the_best_one(self):
        plays = [play(brings=[5]), play(brings=[500])]
        for bill, takes in (([1], [5]), ([0], [0]), ([2], [500])):
            with self.subTest(bill=bill):
                self.assertEqual(check_of(bill, [100], *plays), right_answer(bill, takes, 0))

    def test_the_best_one_is_told_as_best_tells_it(self):
        plays = [play(10, 5, 0, 1, 2, [400, 200]), play(30, 20, 1, 0, 3, [350, 300, 100])]
        for come in ([100, 100, 100, 100], [50, 300, 0, 120], [1, 2, 3, 4]):
            with self.subTest(come=come):
                found = last(begins(come), *plays, best())
                bill = found[4:8]
                self.assertEqual(check_of(bill, come, *plays), [1] + found[3:])

    def test_one_that_leaves_less_than_nothing(self):
        self.assertEqual(check_of([1], [100], play(1000, 500, brings=[7])), right_answer([1], [7], 1500))

    def test_takings_are_rounded_down_and_fall_with_each_time(self):
        self.assertEqual(check_of([1, 1, 1, 1], [33, 67, 199, 300], play(most=4, brings=[10, 10, 1])),
                         right_answer([1] * 4, [3, 6, 1, 3], 0))

    def test_earlier_times_count_with_other_nights_between(self):
        plays = [play(may_run=0, most=3, brings=[90, 60, 30]), play(brings=[8])]
        self.assertEqual(check_of([1, 0, 1, 2, 1], [100] * 5, *plays),
                         right_answer([1, 0, 1, 2, 1], [90, 0, 60, 8, 30], 0))

    def test_the_largest_week(self):
        self.assertEqual(check_of([1] * 6, [300] * 6, play(100000, 100000, 1, 6, 6, [100000])),
                         right_answer([1] * 6, [300000] * 6, 200000))
        plays = [play(100000, 100000, 0, 3, 3, [0])] * 2
        self.assertEqual(check_of([2, 1] * 3, [300] * 6, *plays), right_answer([2, 1] * 3, [0] * 6, 1200000))


class WorkOfABill(unittest.TestCase):
    def work(self, bill):
        nights = len(bill)
        plays = [play(1, 10, 1, 0, nights, [0]), play(100, 1000, 1, 0, nights, [0])]
        return check_of(bill, [100] * nights, *plays)[-1]

    def test_setting_up_and_striking(self):
        for bill, work in (
            ([1], 11), ([1, 1], 11), ([1, 0], 11), ([0, 1], 11), ([1, 0, 1], 22), ([1, 1, 0, 1], 22),
            ([1, 2], 1111), ([2, 1], 1111), ([1, 2, 1], 1122), ([1, 1, 2, 2], 1111), ([2, 0, 0, 2], 2200),
        ):
            with self.subTest(bill=bill):
                self.assertEqual(self.work(bill), work)


class DarkNights(unittest.TestCase):
    def test_a_bill_of_dark_nights_alone(self):
        for nights in range(1, 7):
            with self.subTest(nights=nights):
                self.assertEqual(check_of([0] * nights, [300] * nights, play(9, 9, 0)),
                                 right_answer([0] * nights, [0] * nights, 0))

    def test_the_dark_house_may_run_and_is_never_too_often(self):
        self.assertEqual(check_of([0, 0, 1, 0, 0], [100] * 5, play(2, 3, 0, 1, 1, [7])),
                         right_answer([0, 0, 1, 0, 0], [0, 0, 7, 0, 0], 5))

    def test_a_dark_night_parts_two_of_a_play_that_may_not_run(self):
        self.assertEqual(check_of([1, 0, 1], [100] * 3, play(2, 3, 0, 0, 2, [7])),
                         right_answer([1, 0, 1], [7, 0, 7], 10))

    def test_without_plays(self):
        self.assertEqual(check_of([0, 0], [100, 100]), right_answer([0, 0], [0, 0], 0))

    def test_dark_nights_may_leave_a_play_too_seldom(self):
        self.assertEqual(check_of([0, 0], [100, 100], play(), play(least=1)), wrong_answer(SELDOM, 2))


class TwoNightsRunning(unittest.TestCase):
    never = play(may_run=0, most=3)

    def test_the_second_night_is_told(self):
        for bill, which in (([1, 1, 0], 1), ([0, 1, 1], 2), ([1, 1, 1], 1)):
            with self.subTest(bill=bill):
                self.assertEqual(check_of(bill, [100] * 3, self.never), wrong_answer(NIGHT, which))

    def test_the_first_of_several(self):
        plays = [play(may_run=0, most=6), play(may_run=0, most=6)]
        for bill, which in (([2, 2, 1, 1, 0, 0], 1), ([0, 0, 1, 2, 2, 2], 4), ([1, 2, 1, 2, 1, 1], 5),
                            ([1, 0, 1, 1, 2, 2], 3)):
            with self.subTest(bill=bill):
                self.assertEqual(check_of(bill, [100] * 6, *plays), wrong_answer(NIGHT, which))

    def test_a_play_that_may_run_is_passed_over(self):
        plays = [play(most=4, brings=[1]), play(may_run=0, most=4, brings=[1])]
        self.assertEqual(check_of([1, 1, 2, 2], [100] * 4, *plays), wrong_answer(NIGHT, 3))
        self.assertEqual(check_of([1, 1, 2, 1], [100] * 4, *plays), right_answer([1, 1, 2, 1], [1] * 4, 0))

    def test_two_plays_alike_are_two_plays(self):
        self.assertEqual(check_of([1, 2, 1], [100] * 3, self.never, self.never),
                         right_answer([1, 2, 1], [100] * 3, 0))


class TooSeldom(unittest.TestCase):
    def test_each_number_of_times(self):
        for times in range(5):
            bill = [1] * times + [0] * (4 - times)
            takes = [100 * number for number in bill]
            expected = right_answer(bill, takes, 0) if times >= 3 else wrong_answer(SELDOM, 1)
            with self.subTest(times=times):
                self.assertEqual(check_of(bill, [100] * 4, play(least=3, most=4)), expected)

    def test_which_play(self):
        for number in range(1, 5):
            plays = [play(least=1 if number == asked else 0) for asked in range(1, 5)]
            with self.subTest(number=number):
                self.assertEqual(check_of([0, 0], [100] * 2, *plays), wrong_answer(SELDOM, number))


class TooOften(unittest.TestCase):
    def test_each_number_of_times(self):
        for times in range(5):
            bill = [1] * times + [0] * (4 - times)
            takes = [100 * number for number in bill]
            expected = right_answer(bill, takes, 0) if times <= 2 else wrong_answer(OFTEN, 1)
            with self.subTest(times=times):
                self.assertEqual(check_of(bill, [100] * 4, play(most=2)), expected)

    def test_one_that_is_never_to_be_given(self):
        self.assertEqual(check_of([1], [100], play(most=0)), wrong_answer(OFTEN, 1))
        self.assertEqual(check_of([0], [100], play(most=0)), right_answer([0], [0], 0))

    def test_which_play(self):
        for number in range(1, 5):
            with self.subTest(number=number):
                self.assertEqual(check_of([number, 0, number], [100] * 3, *[play(most=1)] * 4),
                                 wrong_answer(OFTEN, number))


class WhichWrongIsTold(unittest.TestCase):
    def test_two_nights_running_comes_ahead_of_too_seldom(self):
        plays = [play(least=1), play(may_run=0, most=2)]
        self.assertEqual(check_of([0, 2, 2], [100] * 3, *plays), wrong_answer(NIGHT, 2))

    def test_two_nights_running_comes_ahead_of_too_often(self):
        self.assertEqual(check_of([1, 0, 1, 1], [100] * 4, play(may_run=0, most=1)), wrong_answer(NIGHT, 3))
        plays = [play(most=1), play(may_run=0, most=2)]
        self.assertEqual(check_of([1, 1, 2, 2], [100] * 4, *plays), wrong_answer(NIGHT, 3))

    def test_of_two_plays_the_first_one(self):
        seldom = play(least=2, most=3)
        often = play(most=1)
        for plays, bill, answer in (
            ([seldom, seldom], [0, 0, 0], wrong_answer(SELDOM, 1)),
            ([seldom, seldom], [1, 1, 2], wrong_answer(SELDOM, 2)),
            ([often, often], [2, 2, 1, 1], wrong_answer(OFTEN, 1)),
            ([often, often], [2, 2, 1, 0], wrong_answer(OFTEN, 2)),
            ([seldom, often], [2, 2, 1], wrong_answer(SELDOM, 1)),
            ([often, seldom], [1, 1, 2], wrong_answer(OFTEN, 1)),
            ([often, seldom], [1, 0, 2], wrong_answer(SELDOM, 2)),
            ([play(), play(), often, seldom], [3, 3, 3], wrong_answer(OFTEN, 3)),
        ):
            with self.subTest(plays=plays, bill=bill):
                self.assertEqual(check_of(bill, [100] * len(bill), *plays), answer)

    def test_a_week_without_a_right_bill(self):
        plays = [play(least=1), play(least=1)]
        parts = ask(begins([100]), *plays, best(), check([0]), check([1]), check([2]))
        self.assertEqual(parts[3:], [[0], wrong_answer(SELDOM, 1), wrong_answer(SELDOM, 2), wrong_answer(SELDOM, 1)])


class CheckRefusals(unittest.TestCase):
    week = [begins([100, 200, 300]), play(1, 2, 0, 1, 2, [50, 40]), play(3, 4, 1, 0, 3, [10])]

    def test_not_a_number_for_each_night(self):
        for size in (0, 1, 2, 4, 6, 20):
            with self.subTest(size=size):
                self.assertEqual(last(*self.week, check([0] * size)), [-1])
                self.assertEqual(last(*self.week, check(([1, 2] * 10)[:size])), [-1])

    def test_a_play_that_there_is_not(self):
        for place in range(3):
            for number in (3, 4, 5, HUGE):
                bill = [0, 1, 0]
                bill[place] = number
                with self.subTest(bill=bill):
                    self.assertEqual(last(*self.week, check(bill)), [-1])

    def test_every_play_that_there_is(self):
        for count in range(5):
            for number in range(6):
                answer = last(begins([100]), *[play()] * count, check([number]))
                with self.subTest(count=count, number=number):
                    self.assertEqual(answer == [-1], number > count)

    def test_a_refusal_comes_ahead_of_what_is_wrong(self):
        self.assertEqual(last(*self.week, check([1, 1, 3])), [-1])
        self.assertEqual(last(*self.week, check([1, 1])), [-1])
        self.assertEqual(last(*self.week, check([1, 1, 1, 1])), [-1])
        self.assertEqual(last(*self.week, check([3, 3, 3])), [-1])

    def test_all_is_as_it_was(self):
        before = ask(*self.week, best(), check([1, 0, 2]))[3:]
        for bill in ([], [0, 0], [0, 0, 3], [HUGE] * 20):
            with self.subTest(bill=bill):
                self.assertEqual(ask(*self.week, check(bill), best(), check([1, 0, 2]))[3:], [[-1]] + before)

    def test_a_bill_that_is_not_right_changes_nothing_either(self):
        before = ask(*self.week, best(), check([1, 0, 2]))[3:]
        for bill, answer in (([1, 1, 0], wrong_answer(NIGHT, 1)), ([0, 0, 0], wrong_answer(SELDOM, 1))):
            with self.subTest(bill=bill):
                self.assertEqual(ask(*self.week, check(bill), best(), check([1, 0, 2]))[3:], [answer] + before)


class NoNights(unittest.TestCase):
    def test_the_empty_bill(self):
        self.assertEqual(ask(check([])), [[1, 0, 0, 2, 0, 0]])

    def test_any_other_bill(self):
        self.assertEqual(ask(check([0]), check([1]), check([0] * 20)), [[-1], [-1], [-1]])

    def test_behind_a_refused_begins(self):
        self.assertEqual(ask(begins([301]), check([0]), check([])), [[-1], [-1], right_answer([], [], 0)])

    def test_with_a_play_that_is_never_given(self):
        self.assertEqual(ask(play(9, 9, 0, 0, 0, [5]), check([]), check([1])),
                         [[1], right_answer([], [], 0), [-1]])


class CheckGoesByWhatIsNow(unittest.TestCase):
    def test_a_play_told_between(self):
        self.assertEqual(ask(begins([100]), check([1]), play(), check([1]), play(least=1), check([1]), check([2])),
                         [[1], [-1], [1], right_answer([1], [100], 0), [2],
                          wrong_answer(SELDOM, 2), right_answer([2], [100], 0)])

    def test_new_nights(self):
        self.assertEqual(ask(begins([100]), play(), begins([100, 50]), check([0]), check([1, 0]), check([0, 0])),
                         [[1], [1], [2], [-1], [-1], right_answer([0, 0], [0, 0], 0)])

    def test_best_between(self):
        parts = ask(begins([100, 300]), play(4, 5, most=2), check([1, 0]), best(), check([1, 0]))
        self.assertEqual(parts[2:], [right_answer([1, 0], [100, 0], 9), best_answer(391, 1, [1, 1], [100, 300], 9),
                                     right_answer([1, 0], [100, 0], 9)])

    def test_a_night_told_anew_and_a_play_dropped(self):
        parts = ask(begins([100, 300]), play(), play(brings=[7]), night(1, 200), drop(1), check([0, 1]), check([2, 0]))
        self.assertEqual(parts[3:], [[300], [1], right_answer([0, 1], [0, 14], 0), [-1]])
