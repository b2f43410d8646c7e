"""A week: its nights, its plays, and what is answered about them."""

from weekplays.bills import reckoning, with_length
from weekplays.play import Play
from weekplays.search import Search

MOST_NIGHTS = 6
MOST_COME = 300
MOST_PLAYS = 4


class Week:
    """The nights and plays told so far; each method gives back the numbers of its answer."""

    def __init__(self):
        self.come = []
        self.plays = [dark_house()]

    def begins(self, come):
        """Takes these nights in the place of all that was told before."""
        if not are_nights(come):
            return [-1]
        self.come = come
        self.plays = [dark_house()]
        return [len(come)]

    def play(self, told):
        """Takes one more play. Where both refusals are due, -1 is the one told first."""
        if not told.is_as_told(len(self.come)):
            return [-1]
        number = len(self.plays)
        if number > MOST_PLAYS:
            return [-5]
        self.plays.append(told)
        return [number]

    def best(self):
        """What the right bill that leaves most leaves, how many leave as much, and the earliest."""
        found = Search(self.come, self.plays).whole_week()
        if found.ways == 0:
            return [0]
        return [found.left] + with_length([found.ways]) + reckoning(self.come, self.plays, found.bill)


def are_nights(come):
    return 1 <= len(come) <= MOST_NIGHTS and max(come) <= MOST_COME


def dark_house():
    """What stands at place 0 among the plays.

    It costs and brings nothing and no rule holds it back, so nothing that goes
    through a bill has to ask whether the house is dark.
    """
    return Play(0, 0, 1, 0, MOST_NIGHTS, [0])
