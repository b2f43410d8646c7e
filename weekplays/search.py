"""The search for the right bills of a week that leave most."""

from weekplays.bills import change_cost


class Outlook:
    """The best right ways through some nights at the week's end.

    left is what each of them leaves, ways how many there are, bill the earliest
    of them. Where there is no right way, ways is 0 and the others tell nothing.
    """

    def __init__(self, left, ways, bill):
        self.left = left
        self.ways = ways
        self.bill = bill


class Search:
    """Looks through a week's right bills, from each night on.

    What the nights ahead can leave hangs on the play of the night before and on
    how often each was given, not on the order of those nights: so it is kept,
    and many bills are looked through at once.
    """

    def __init__(self, come, plays):
        self.come = come
        self.plays = plays
        self.known = {}

    def whole_week(self):
        return self.onward(0, 0, (0,) * len(self.plays))

    def onward(self, night, before, given):
        """The outlook from this night on, behind that play, each given so many times."""
        standing = (night, before, given)
        if standing not in self.known:
            self.known[standing] = self.looked_up(night, before, given)
        return self.known[standing]

    def looked_up(self, night, before, given):
        if night == len(self.come):
            return self.at_the_end(before, given)
        found = no_way()
        for number in range(len(self.plays)):
            found = joined(found, self.choosing(number, night, before, given))
        return found

    def at_the_end(self, before, given):
        for number, play in enumerate(self.plays):
            if given[number] < play.least:
                return no_way()
        return Outlook(-change_cost(self.plays, before, 0), 1, [])

    def choosing(self, number, night, before, given):
        """The outlook from this night on, if this play is given on it."""
        play = self.plays[number]
        if number == before and not play.may_run:
            return no_way()
        if given[number] == play.most:
            return no_way()
        rest = self.onward(night + 1, number, one_more(given, number))
        gain = play.takes(given[number], self.come[night]) - change_cost(self.plays, before, number)
        return Outlook(gain + rest.left, rest.ways, [number] + rest.bill)


def no_way():
    return Outlook(0, 0, [])


def joined(found, later):
    """The better of two outlooks, or both as one; every bill of the second is the later."""
    if later.ways == 0:
        return found
    if found.ways == 0 or later.left > found.left:
        return later
    if later.left < found.left:
        return found
    return Outlook(found.left, found.ways + later.ways, found.bill)


def one_more(given, number):
    """How often each was given, when this one is given once more."""
    return given[:number] + (given[number] + 1,) + given[number + 1:]
