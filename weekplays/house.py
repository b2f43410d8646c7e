"""The calls about one week, read from one list of whole numbers and answered in another."""

from weekplays.play import Play
from weekplays.reader import Reader
from weekplays.week import Week

BEGINS = 0
PLAY = 1
BEST = 2
CHECK = 3
NIGHT = 4
DROP = 5


class UnknownCall(ValueError):
    """A call's number stands for none of the calls."""


def answers(calls):
    """What is answered to each call in order, behind how many numbers that is."""
    reader = Reader(calls)
    week = Week()
    answered = []
    while reader.has_more():
        answer = answer_next(reader, week)
        answered.append(len(answer))
        answered.extend(answer)
    return answered


def answer_next(reader, week):
    """Reads one call and gives back the numbers that it answers."""
    call = reader.number()
    if call == BEGINS:
        return week.begins(reader.row())
    if call == PLAY:
        return week.play(read_play(reader))
    if call == BEST:
        return week.best()
    if call == CHECK:
        return week.check(reader.row())
    if call == NIGHT:
        place = reader.number()
        return week.night(place, reader.number())
    if call == DROP:
        return week.drop(reader.number())
    raise UnknownCall(f"there is no call {call}")


def read_play(reader):
    set_up = reader.number()
    strike = reader.number()
    may_run = reader.number()
    least = reader.number()
    most = reader.number()
    return Play(set_up, strike, may_run, least, most, reader.row())
