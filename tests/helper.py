"""Calls as they are written in the one list, and the answers taken out of the other."""

from weekplays.house import answers


def begins(come):
    return [0, len(come)] + come


def play(set_up=0, strike=0, may_run=1, least=0, most=1, brings=(100,)):
    return [1, set_up, strike, may_run, least, most, len(brings)] + list(brings)


def best():
    return [2]


def check(bill):
    return [3, len(bill)] + list(bill)


def night(place, come):
    return [4, place, come]


def drop(number):
    return [5, number]


def ask(*calls):
    """The answer to each call, a list for each."""
    answered = answers([number for call in calls for number in call])
    parts = []
    at = 0
    while at < len(answered):
        end = at + 1 + answered[at]
        parts.append(answered[at + 1:end])
        at = end
    if at != len(answered):
        raise AssertionError(f"the last answer is cut short: {answered}")
    return parts


def last(*calls):
    """The answer to the last call alone."""
    return ask(*calls)[-1]


def best_answer(left, ways, bill, takes, work):
    """A best's answer, as its numbers stand in one list."""
    return [left, 1, ways] + three_lists(bill, takes, work)


def right_answer(bill, takes, work):
    """A check's answer to a right bill."""
    return [1] + three_lists(bill, takes, work)


def wrong_answer(wrong, which):
    """A check's answer to a bill that isn't right."""
    return [0, 2, wrong, which]


def three_lists(bill, takes, work):
    nights = len(bill)
    return [nights] + bill + [nights] + takes + [2, sum(takes), work]
