"""best against another function that goes through all bills, as the document's words stand."""

import itertools
import unittest

from tests.helper import ask, begins, best, best_answer, play


def night_takings(come, plays, bill):
    taken = []
    for night, number in enumerate(bill):
        if number == 0:
            taken.append(0)
            continue
        brings = plays[number - 1][5]
        earlier = bill[:night].count(number)
        brought = brings[earlier] if earlier < len(brings) else brings[-1]
        taken.append(brought * come[night] // 100)
    return taken


def all_work(plays, bill):
    cost = 0
    for night, number in enumerate(bill):
        if number == 0:
            continue
        if night == 0 or bill[night - 1] != number:
            cost += plays[number - 1][0]
        if night == len(bill) - 1 or bill[night + 1] != number:
            cost += plays[number - 1][1]
    return cost


def is_right(plays, bill):
    for night in range(1, len(bill)):
        number = bill[night]
        if number != 0 and bill[night - 1] == number and plays[number - 1][2] == 0:
            return False
    for number, told in enumerate(plays, start=1):
        if not told[3] <= bill.count(number) <= told[4]:
            return False
    return True


def plain_best(come, plays):
    """The answer of best; product goes from the earliest bill to the last."""
    right = []
    for bill in itertools.product(range(len(plays) + 1), repeat=len(come)):
        if is_right(plays, bill):
            left = sum(night_takings(come, plays, bill)) - all_work(plays, bill)
            right.append((left, list(bill)))
    if not right:
        return [0]
    most = max(left for left, bill in right)
    equal = [bill for left, bill in right if left == most]
    earliest = equal[0]
    return best_answer(most, len(equal), earliest, night_takings(come, plays, earliest), all_work(plays, earliest))


class Numbers:
    """Numbers in a fixed order, the same at every run."""

    def __init__(self, start):
        self.state = start

    def below(self, bound):
        self.state = (self.state * 6364136223846793005 + 1442695040888963407) % 2 ** 64
        return (self.state >> 33) % bound

    def one_of(self, choices):
        return choices[self.below(len(choices))]


def made_play(numbers, nights, dearest):
    most = numbers.below(nights + 1)
    least = numbers.one_of([0, 0, 0, numbers.below(most + 1)])
    brings = [numbers.below(dearest + 1) for place in range(1 + numbers.below(6))]
    if numbers.below(2):
        brings = sorted(brings, reverse=True)
    cost = numbers.one_of([1, dearest // 2 + 1, dearest + 1])
    return numbers.below(cost), numbers.below(cost), numbers.below(2), least, most, brings


def made_week(numbers, nights, count):
    """A week's nights and plays; few different numbers make many bills that leave as much."""
    dearest = numbers.one_of([2, 5, 20, 1000, 100000])
    people = numbers.one_of([[100], [0, 100, 300], list(range(301))])
    come = [numbers.one_of(people) for night in range(nights)]
    return come, [made_play(numbers, nights, dearest) for number in range(count)]


def largest_play(numbers, may_run):
    brings = sorted((numbers.below(1000) for place in range(6)), reverse=True)
    return numbers.below(300), numbers.below(300), may_run, 0, 6, brings


def asked(come, plays, times=1):
    """The answers of best, asked so often behind the week's own calls."""
    parts = ask(begins(come), *[play(*told) for told in plays], *[best()] * times)
    return parts[1 + len(plays):]


class AllWeeks(unittest.TestCase):
    def compare(self, come, plays):
        with self.subTest(come=come, plays=plays):
            self.assertEqual(asked(come, plays), [plain_best(come, plays)])

    def test_small_weeks(self):
        numbers = Numbers(1)
        for nights in range(1, 5):
            for count in range(5):
                for round_of_weeks in range(40):
                    self.compare(*made_week(numbers, nights, count))

    def test_longer_weeks(self):
        numbers = Numbers(2)
        for nights in (5, 6):
            for count in range(4):
                for round_of_weeks in range(12):
                    self.compare(*made_week(numbers, nights, count))

    def test_the_made_weeks_hold_what_they_are_made_for(self):
        numbers = Numbers(1)
        weeks = [made_week(numbers, nights, count) for nights in (3, 4) for count in (2, 3) for turn in range(40)]
        answers = [plain_best(*week) for week in weeks]
        self.assertTrue(any(answer == [0] for answer in answers))
        self.assertTrue(any(answer[0] < 0 for answer in answers))
        self.assertTrue(any(len(answer) > 1 and answer[2] > 1 for answer in answers))
        self.assertTrue(any(len(answer) > 1 and answer[2] == 1 for answer in answers))


class LargestWeek(unittest.TestCase):
    def test_best_is_asked_several_times(self):
        numbers = Numbers(3)
        for running in ([1, 1, 1, 1], [0, 0, 0, 0], [1, 0, 1, 0]):
            come = [numbers.below(301) for night in range(6)]
            plays = [largest_play(numbers, may_run) for may_run in running]
            with self.subTest(come=come, plays=plays):
                self.assertEqual(asked(come, plays, times=35), [plain_best(come, plays)] * 35)

    def test_made_ones(self):
        numbers = Numbers(4)
        for turn in range(8):
            come, plays = made_week(numbers, 6, 4)
            with self.subTest(come=come, plays=plays):
                self.assertEqual(asked(come, plays, times=6), [plain_best(come, plays)] * 6)

    def test_every_play_at_least_once(self):
        numbers = Numbers(5)
        come = [numbers.below(301) for night in range(6)]
        plays = [told[:3] + (1,) + told[4:] for told in [largest_play(numbers, 0) for number in range(4)]]
        self.assertEqual(asked(come, plays, times=6), [plain_best(come, plays)] * 6)
