"""A play, as it is told for a week."""

MOST_MONEY = 100000
MOST_BRINGS = 6


class Play:
    """What a play costs and brings, and how often it is to be given."""

    def __init__(self, set_up, strike, may_run, least, most, brings):
        self.set_up = set_up
        self.strike = strike
        self.may_run = may_run
        self.least = least
        self.most = most
        self.brings = brings

    def is_as_told(self, nights):
        """Whether each number is within its bounds, in a week of so many nights."""
        if self.set_up > MOST_MONEY or self.strike > MOST_MONEY or self.may_run > 1:
            return False
        if self.least > self.most or self.most > nights:
            return False
        return 1 <= len(self.brings) <= MOST_BRINGS and max(self.brings) <= MOST_MONEY

    def takes(self, times, come):
        """What a night takes by it, given so many times earlier, if so many of a hundred come."""
        place = min(times, len(self.brings) - 1)
        return self.brings[place] * come // 100
