"""A week: its nights, its plays, and what is answered about them."""

from weekplays.bills import first_wrong, reckoning, with_length
from weekplays.play import Play
from weekplays.search import Search

MOST_NIGHTS = 6
MOST_COME = 300
MOST_PLAYS = 4


class Week:
    """The nights and plays told so far; each method gives back the numbers of its answer."""

    def __init__(self):
        self.come = []
        self.plays = [dark_house()]

    def begins(self, come):
        """Takes these nights in the place of all that was told before."""
        if not are_nights(come):
            return [-1]
        self.come = list(come)
        self.plays = [dark_house()]
        return [len(come)]

    def play(self, told):
        """Takes one more play. Where both refusals are due, -1 is the one told first."""
        if not told.is_as_told(len(self.come)):
            return [-1]
        number = len(self.plays)
        if number > MOST_PLAYS:
            return [-5]
        self.plays.append(told)
        return [number]

    def best(self):
        """What the right bill that leaves most leaves, how many leave as much, and the earliest."""
        found = Search(self.come, self.plays).whole_week()
        if found.ways == 0:
            return [0]
        return [found.left] + with_length([found.ways]) + reckoning(self.come, self.plays, found.bill)

    def check(self, bill):
        """Whether a bill is right: then its reckoning, else what is wrong with it first."""
        if not self.is_bill(bill):
            return [-1]
        wrong = first_wrong(self.plays, bill)
        if wrong:
            return [0] + with_length(wrong)
        return [1] + reckoning(self.come, self.plays, bill)

    def is_bill(self, bill):
        """Whether it has a number for each night, and each is a play or the dark house."""
        return len(bill) == len(self.come) and max(bill, default=0) < len(self.plays)

    def night(self, place, come):
        """Takes so many people for a night, and gives back how many were told before."""
        if place >= len(self.come):
            return [-2]
        if come > MOST_COME:
            return [-1]
        before = self.come[place]
        self.come[place] = come
        return [before]

    def drop(self, number):
        """Takes a play away, and gives back how many are left."""
        # the dark house stands at place 0 and is no play, so it is not counted and not dropped
        if not 1 <= number < len(self.plays):
            return [-2]
        self.plays.pop(number)
        return [len(self.plays) - 1]


def are_nights(come):
    return 1 <= len(come) <= MOST_NIGHTS and max(come) <= MOST_COME


def dark_house():
    """What stands at place 0 among the plays.

    It costs and brings nothing and no rule holds it back, so nothing that goes
    through a bill has to ask whether the house is dark.
    """
    return Play(0, 0, 1, 0, MOST_NIGHTS, [0])
