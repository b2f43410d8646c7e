import unittest

from tests.helper import ask, begins, best, best_answer, last, play


def best_of(come, *plays):
    return last(begins(come), *plays, best())


class SmallWeeks(unittest.TestCase):
    def test_without_nights_the_empty_bill_is_the_only_one(self):
        self.assertEqual(ask(best()), [[0, 1, 1, 0, 0, 2, 0, 0]])

    def test_without_plays_the_house_stays_dark(self):
        self.assertEqual(best_of([100]), [0, 1, 1, 1, 0, 1, 0, 2, 0, 0])
        self.assertEqual(best_of([300] * 6), best_answer(0, 1, [0] * 6, [0] * 6, 0))

    def test_one_play(self):
        self.assertEqual(best_of([100], play(30, 20, brings=[200])), [150, 1, 1, 1, 1, 1, 200, 2, 200, 50])

    def test_one_play_that_does_not_pay(self):
        self.assertEqual(best_of([100], play(150, 51, brings=[200])), best_answer(0, 1, [0], [0], 0))

    def test_one_play_that_pays_for_its_work_alone(self):
        self.assertEqual(best_of([100], play(150, 50, brings=[200])), best_answer(0, 2, [0], [0], 0))

    def test_several_plays(self):
        plays = [play(brings=[10, 1], most=2), play(brings=[9, 8], most=2), play(brings=[7], most=2)]
        self.assertEqual(best_of([100, 200, 300], *plays), best_answer(55, 2, [2, 2, 1], [9, 16, 30], 0))

    def test_the_best_night_for_the_play_that_brings_most(self):
        plays = [play(brings=[1000]), play(brings=[500]), play(brings=[100])]
        self.assertEqual(best_of([50, 300, 100], *plays), best_answer(3550, 1, [3, 1, 2], [50, 3000, 500], 0))


class Takings(unittest.TestCase):
    def test_each_time_it_brings_its_own_number(self):
        self.assertEqual(best_of([100] * 4, play(least=4, most=4, brings=[50, 70, 10, 40])),
                         best_answer(170, 1, [1] * 4, [50, 70, 10, 40], 0))

    def test_from_the_last_number_on_it_stays(self):
        self.assertEqual(best_of([100] * 5, play(most=5, brings=[90, 60])),
                         best_answer(330, 1, [1] * 5, [90, 60, 60, 60, 60], 0))
        self.assertEqual(best_of([100] * 6, play(most=6, brings=[7])), best_answer(42, 1, [1] * 6, [7] * 6, 0))

    def test_earlier_nights_count_with_dark_ones_between(self):
        self.assertEqual(best_of([100] * 3, play(may_run=0, most=2, least=2, brings=[90, 60])),
                         best_answer(150, 1, [1, 0, 1], [90, 0, 60], 0))

    def test_each_play_is_counted_by_itself(self):
        plays = [play(may_run=0, least=2, most=2, brings=[90, 60]), play(may_run=0, least=2, most=2, brings=[30, 20])]
        self.assertEqual(best_of([100] * 4, *plays), best_answer(200, 2, [1, 2, 1, 2], [90, 30, 60, 20], 0))

    def test_rounding_down_night_by_night(self):
        self.assertEqual(best_of([99], play(brings=[1])), best_answer(0, 2, [0], [0], 0))
        self.assertEqual(best_of([199], play(brings=[1])), best_answer(1, 1, [1], [1], 0))
        self.assertEqual(best_of([50, 50], play(least=2, most=2, brings=[3])), best_answer(2, 1, [1, 1], [1, 1], 0))
        self.assertEqual(best_of([33, 67], play(least=2, most=2, brings=[10, 10])), best_answer(9, 1, [1, 1], [3, 6], 0))

    def test_a_night_on_which_nobody_comes(self):
        self.assertEqual(best_of([0, 100], play(brings=[100])), best_answer(100, 1, [0, 1], [0, 100], 0))

    def test_the_largest_takings(self):
        self.assertEqual(best_of([300] * 6, play(100000, 100000, most=6, brings=[100000])),
                         best_answer(1600000, 1, [1] * 6, [300000] * 6, 200000))


class Work(unittest.TestCase):
    def test_neighbouring_nights_are_set_up_and_struck_once(self):
        self.assertEqual(best_of([100, 100], play(7, 3, least=2, most=2)), best_answer(190, 1, [1, 1], [100, 100], 10))

    def test_nights_apart_are_set_up_and_struck_each_time(self):
        self.assertEqual(best_of([100, 0, 100], play(7, 3, least=2, most=2, may_run=0)),
                         best_answer(180, 1, [1, 0, 1], [100, 0, 100], 20))

    def test_running_through_a_poor_night_saves_work(self):
        told = play(30, 20, most=3, brings=[100])
        self.assertEqual(best_of([100, 0, 100], told), best_answer(150, 1, [1, 1, 1], [100, 0, 100], 50))

    def test_a_dark_night_between_costs_both(self):
        told = play(30, 20, least=2, most=2, brings=[100])
        self.assertEqual(best_of([100, 1, 100], told), best_answer(100, 1, [1, 0, 1], [100, 0, 100], 100))

    def test_the_first_night_is_set_up(self):
        self.assertEqual(best_of([100, 0], play(40, 0)), best_answer(60, 1, [1, 0], [100, 0], 40))

    def test_the_last_night_is_struck(self):
        self.assertEqual(best_of([0, 100], play(0, 40)), best_answer(60, 1, [0, 1], [0, 100], 40))

    def test_a_change_of_play_strikes_one_and_sets_up_the_other(self):
        plays = [play(1, 10, least=1), play(100, 1000, least=1, brings=[50000])]
        self.assertEqual(best_of([100, 200], *plays), best_answer(98989, 1, [1, 2], [100, 100000], 1111))

    def test_coming_back_to_a_play_is_work_again(self):
        plays = [play(1, 10, may_run=0, least=2, most=2), play(100, 1000, least=1, brings=[5])]
        self.assertEqual(best_of([100, 100, 100], *plays), best_answer(205 - 1122, 1, [1, 2, 1], [100, 5, 100], 1122))


class Rules(unittest.TestCase):
    def test_a_play_that_may_run(self):
        self.assertEqual(best_of([100, 100], play(most=2)), best_answer(200, 1, [1, 1], [100, 100], 0))

    def test_a_play_that_may_not_run(self):
        self.assertEqual(best_of([100, 100], play(may_run=0, most=2)), best_answer(100, 2, [0, 1], [0, 100], 0))
        self.assertEqual(best_of([100, 100, 100], play(may_run=0, most=3)),
                         best_answer(200, 1, [1, 0, 1], [100, 0, 100], 0))

    def test_whether_it_may_run_is_asked_of_each_play(self):
        plays = [play(may_run=0, most=2, brings=[100]), play(most=2, brings=[60])]
        self.assertEqual(best_of([100, 100], *plays), best_answer(160, 2, [1, 2], [100, 60], 0))

    def test_at_most(self):
        for most in range(4):
            with self.subTest(most=most):
                bill = [0] * (3 - most) + [1] * most
                ways = [1, 3, 3, 1][most]
                self.assertEqual(best_of([100] * 3, play(most=most)),
                                 best_answer(100 * most, ways, bill, [100 * number for number in bill], 0))

    def test_at_least(self):
        for least in range(4):
            with self.subTest(least=least):
                bill = [0] * (3 - least) + [1] * least
                ways = [1, 6, 3, 1][least]
                work = 9 if least else 0
                self.assertEqual(best_of([100] * 3, play(4, 5, least=least, most=3, brings=[0])),
                                 best_answer(-work, ways, bill, [0] * 3, work))

    def test_at_least_of_a_poor_play_keeps_a_rich_one_out(self):
        plays = [play(most=2, brings=[1000]), play(least=1, most=2, brings=[1])]
        self.assertEqual(best_of([100, 200], *plays), best_answer(2001, 1, [2, 1], [1, 2000], 0))

    def test_no_bill_is_right(self):
        self.assertEqual(best_of([100, 100], play(may_run=0, least=2, most=2)), [0])
        self.assertEqual(best_of([100], play(least=1), play(least=1)), [0])
        self.assertEqual(best_of([100] * 6, play(least=4, most=6), play(least=3, most=6)), [0])

    def test_right_bills_that_leave_nothing_are_told_in_full(self):
        self.assertEqual(best_of([0], play(least=1)), best_answer(0, 1, [1], [0], 0))


class Ties(unittest.TestCase):
    def test_how_many_and_the_earliest(self):
        self.assertEqual(best_of([100, 100], play(brings=[5]), play(brings=[5])),
                         best_answer(10, 2, [1, 2], [5, 5], 0))

    def test_the_first_night_counts_most_for_the_earliest(self):
        self.assertEqual(best_of([100] * 3, play(brings=[5])), best_answer(5, 3, [0, 0, 1], [0, 0, 5], 0))

    def test_a_later_night_may_decide(self):
        plays = [play(most=3, brings=[5]), play(most=3, brings=[5])]
        self.assertEqual(best_of([100] * 3, *plays), best_answer(15, 8, [1, 1, 1], [5, 5, 5], 0))

    def test_the_dark_house_is_earlier_than_a_play_that_leaves_nothing(self):
        self.assertEqual(best_of([100] * 3, play(most=3, brings=[0])), best_answer(0, 8, [0] * 3, [0] * 3, 0))

    def test_every_bill_of_the_largest_week_leaves_as_much(self):
        plays = [play(most=6, brings=[0])] * 4
        self.assertEqual(best_of([300] * 6, *plays), best_answer(0, 15625, [0] * 6, [0] * 6, 0))

    def test_unlike_bills_that_leave_as_much(self):
        plays = [play(10, 10, brings=[120]), play(0, 0, brings=[100])]
        self.assertEqual(best_of([100], *plays), best_answer(100, 2, [1], [120], 20))

    def test_wrong_bills_that_would_leave_as_much_are_not_counted(self):
        plays = [play(least=1, brings=[5]), play(brings=[5]), play(most=0, brings=[5])]
        self.assertEqual(best_of([100], *plays), best_answer(5, 1, [1], [5], 0))


class BelowNothing(unittest.TestCase):
    def test_a_best_below_0_is_no_refusal(self):
        self.assertEqual(best_of([100], play(30, 20, least=1, brings=[10])), best_answer(-40, 1, [1], [10], 50))

    def test_a_best_of_one_below_0_is_told_in_full(self):
        self.assertEqual(best_of([100], play(1, 0, least=1, brings=[0])), best_answer(-1, 1, [1], [0], 1))

    def test_the_least_that_can_be_left(self):
        plays = [play(100000, 100000, 0, 3, 3, [0]), play(100000, 100000, 0, 3, 3, [0])]
        self.assertEqual(best_of([300] * 6, *plays),
                         best_answer(-1200000, 2, [1, 2, 1, 2, 1, 2], [0] * 6, 1200000))

    def test_all_bills_leave_less_than_0_but_not_alike(self):
        plays = [play(5, 0, least=1, brings=[0]), play(7, 0, least=1, brings=[0])]
        self.assertEqual(best_of([1, 1, 1], *plays), best_answer(-12, 6, [0, 1, 2], [0, 0, 0], 12))
