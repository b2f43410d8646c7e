"""What one bill takes and costs, and what is wrong with it.

A bill is a list of places among the plays, 0 the dark house.
"""

NOT_TWICE_RUNNING = 1
TOO_SELDOM = 2
TOO_OFTEN = 3


def first_wrong(plays, bill):
    """What is wrong with a bill first, and the night or play; empty if it is right."""
    return wrong_night(plays, bill) or wrong_play(plays, bill)


def wrong_night(plays, bill):
    for night in range(1, len(bill)):
        number = bill[night]
        if number == bill[night - 1] and not plays[number].may_run:
            return [NOT_TWICE_RUNNING, night]
    return []


def wrong_play(plays, bill):
    for number, play in enumerate(plays):
        times = bill.count(number)
        if times < play.least:
            return [TOO_SELDOM, number]
        if times > play.most:
            return [TOO_OFTEN, number]
    return []


def takings(come, plays, bill):
    """What each night takes, in order."""
    given = [0] * len(plays)
    taken = []
    for night, number in enumerate(bill):
        taken.append(plays[number].takes(given[number], come[night]))
        given[number] += 1
    return taken


def change_cost(plays, before, number):
    """The work of going from one night's play to the next night's."""
    if before == number:
        return 0
    return plays[before].strike + plays[number].set_up


def work_cost(plays, bill):
    """What all work of the week costs: ahead of it and behind it the house is dark."""
    cost = 0
    before = 0
    for number in bill + [0]:
        cost += change_cost(plays, before, number)
        before = number
    return cost


def reckoning(come, plays, bill):
    """The lists told of a right bill: itself, what each night takes, all takings and the work."""
    taken = takings(come, plays, bill)
    totals = [sum(taken), work_cost(plays, bill)]
    return with_length(bill) + with_length(taken) + with_length(totals)


def with_length(row):
    """A list as it stands in an answer: behind how many numbers it has."""
    return [len(row)] + row
