"""Lines of mixed calls against another reading of the document's words."""

import unittest

from tests.helper import ask, begins, best, check, drop, night, play, right_answer, wrong_answer
from tests.test_plain_reading import Numbers, all_work, made_play, night_takings, plain_best
from weekplays.house import answers

HUGE = 4294967295


def plain_wrong(plays, bill):
    """All that is wrong with a bill, the first ahead: the kind, and which night or play."""
    wrong = []
    for place in range(1, len(bill)):
        if bill[place] != 0 and bill[place] == bill[place - 1] and plays[bill[place] - 1][2] == 0:
            wrong.append((1, place))
    for number, told in enumerate(plays, start=1):
        if bill.count(number) < told[3]:
            wrong.append((2, number))
        if bill.count(number) > told[4]:
            wrong.append((3, number))
    return wrong


class PlainHouse:
    """The week as the words tell it; each call gives its answer."""

    def __init__(self):
        self.come = []
        self.plays = []

    def begins(self, come):
        if not 1 <= len(come) <= 6 or any(number > 300 for number in come):
            return [-1]
        self.come = list(come)
        self.plays = []
        return [len(come)]

    def play(self, set_up, strike, may_run, least, most, brings):
        if set_up > 100000 or strike > 100000 or not 1 <= len(brings) <= 6 or any(one > 100000 for one in brings):
            return [-1]
        if least > most or most > len(self.come):
            return [-1]
        if len(self.plays) == 4:
            return [-5]
        self.plays.append((set_up, strike, may_run, least, most, brings))
        return [len(self.plays)]

    def best(self):
        return plain_best(self.come, self.plays)

    def check(self, bill):
        if len(bill) != len(self.come) or any(number > len(self.plays) for number in bill):
            return [-1]
        wrong = plain_wrong(self.plays, bill)
        if wrong:
            return wrong_answer(*wrong[0])
        return right_answer(bill, night_takings(self.come, self.plays, bill), all_work(self.plays, bill))

    def night(self, place, come):
        if place not in range(len(self.come)):
            return [-2]
        if come > 300:
            return [-1]
        before = self.come[place]
        self.come[place] = come
        return [before]

    def drop(self, number):
        if number not in range(1, len(self.plays) + 1):
            return [-2]
        self.plays = self.plays[:number - 1] + self.plays[number:]
        return [len(self.plays)]


WRITTEN = {"begins": begins, "play": play, "best": best, "check": check, "night": night, "drop": drop}
CALLS = ["check"] * 8 + ["play"] * 4 + ["night"] * 3 + ["drop"] * 2 + ["best"] * 2 + ["begins"]


def made_begins(numbers):
    nights = numbers.one_of([1, 2, 3, 3, 4, 4, 0, 7])
    return [[numbers.one_of([0, 50, 99, 100, 300, 300, numbers.below(303)]) for place in range(nights)]]


def made_bill(numbers, house):
    """A bill for the nights that there are, now and then with a wrong length or a wrong play."""
    size = max(0, len(house.come) + numbers.one_of([0] * 12 + [1, -1]))
    highest = len(house.plays) + numbers.one_of([0] * 12 + [1])
    return [numbers.below(highest + 1) for place in range(size)]


def made_call(numbers, house):
    name = numbers.one_of(CALLS)
    nights = len(house.come)
    if name == "begins":
        return name, made_begins(numbers)
    if name == "play":
        return name, list(made_play(numbers, nights + numbers.one_of([0, 0, 0, 1]), numbers.one_of([2, 50, 100000])))
    if name == "check":
        return name, [made_bill(numbers, house)]
    if name == "night":
        return name, [numbers.one_of([numbers.below(nights + 1), 0, HUGE]), numbers.one_of([0, 100, 250, 300, 301])]
    if name == "drop":
        return name, [numbers.one_of([numbers.below(len(house.plays) + 2), 1])]
    return name, []


def made_line(numbers, size):
    """A line's calls as they are written, and the answer that each must have."""
    house = PlainHouse()
    calls = []
    expected = []
    for turn in range(size):
        name, told = ("begins", made_begins(numbers)) if turn == 0 else made_call(numbers, house)
        calls.append(WRITTEN[name](*told))
        expected.append(getattr(house, name)(*told))
    return calls, expected


class MixedLines(unittest.TestCase):
    def test_made_lines(self):
        numbers = Numbers(11)
        for turn in range(400):
            calls, expected = made_line(numbers, 1 + numbers.below(40))
            with self.subTest(calls=calls):
                self.assertEqual(ask(*calls), expected)

    def test_the_made_lines_hold_what_they_are_made_for(self):
        numbers = Numbers(11)
        seen = set()
        for turn in range(400):
            calls, expected = made_line(numbers, 1 + numbers.below(40))
            for call, answer in zip(calls, expected):
                kind = answer[:3] if call[0] == 3 and answer[0] == 0 else [min(answer[0], 1)]
                seen.add((call[0], *kind))
        for kind in ((0, -1), (0, 1), (1, -5), (1, -1), (1, 1), (2, 0), (2, 1), (3, -1), (3, 1), (3, 0, 2, 1),
                     (3, 0, 2, 2), (3, 0, 2, 3), (4, -2), (4, -1), (4, 1), (5, -2), (5, 0), (5, 1)):
            with self.subTest(kind=kind):
                self.assertIn(kind, seen)

    def test_every_bill_of_a_week(self):
        numbers = Numbers(12)
        for turn in range(30):
            nights = 1 + numbers.below(3)
            told = [begins([numbers.below(301) for place in range(nights)])]
            told += [play(*made_play(numbers, nights, 50)) for number in range(2)]
            self.compare_every_bill(told, nights)

    def compare_every_bill(self, told, nights):
        """The best of the right bills, each asked with check, is what best tells."""
        left = []
        for place in range(3 ** nights):
            bill = [place // 3 ** (nights - 1 - at) % 3 for at in range(nights)]
            answer = ask(*told, check(bill))[-1]
            if answer[0] == 1:
                left.append((answer[-2] - answer[-1], answer[1:]))
        expected = [0]
        if left:
            most = max(one for one, lists in left)
            equal = [lists for one, lists in left if one == most]
            expected = [most, 1, len(equal)] + equal[0]
        with self.subTest(told=told):
            self.assertEqual(ask(*told, best())[-1], expected)


class WhatIsHandedIn(unittest.TestCase):
    def test_it_stays_as_it_was(self):
        numbers = Numbers(13)
        for turn in range(60):
            calls, expected = made_line(numbers, 40)
            line = [number for call in calls for number in call]
            copy = list(line)
            first = answers(line)
            with self.subTest(calls=calls):
                self.assertEqual(line, copy)
                self.assertEqual(answers(line), first)
                self.assertEqual({type(number) for number in first}, {int})

    def test_a_night_told_anew_is_not_written_into_it(self):
        line = begins([100, 200]) + play() + night(0, 7) + check([1, 0]) + drop(1) + best()
        copy = list(line)
        answers(line)
        self.assertEqual(line, copy)

    def test_it_is_not_written_to_even_for_a_while(self):
        class Unchanging(list):
            def refuse(self, *told):
                raise AssertionError("what was handed in is changed")

            __setitem__ = __delitem__ = __iadd__ = __imul__ = refuse
            append = extend = insert = pop = remove = clear = sort = reverse = refuse

        numbers = Numbers(14)
        for turn in range(20):
            calls, expected = made_line(numbers, 40)
            line = [number for call in calls for number in call]
            self.assertEqual(answers(Unchanging(line)), answers(line))
