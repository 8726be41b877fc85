"""The calls on one kit, handed in as one list of whole numbers, and their answers, given back as one."""

from saymessages.calls import CALLS, Answer
from saymessages.languages import Kit
from saymessages.refusals import Refused


# The list of calls, and how far it has been taken; the list itself is only read.
class Feed:
    def __init__(self, calls):
        self.calls = calls
        self.place = 0

    def is_left(self):
        return self.place < len(self.calls)

    def take_number(self):
        number = self.calls[self.place]
        self.place += 1
        return number

    def take_row(self):
        length = self.take_number()
        row = tuple(self.calls[self.place:self.place + length])
        self.place += length
        return row


def answer_next(kit, feed):
    call = CALLS[feed.take_number()]
    numbers = [feed.take_number() for count in range(call[1])]
    rows = [feed.take_row() for count in range(call[2])]
    try:
        return call[0](kit, numbers, rows)
    except Refused as refused:
        return Answer(refused.refusal, refused.row, [])


def laid_out(answer):
    told = [answer.number, len(answer.row)]
    told.extend(answer.row)
    told.append(len(answer.text))
    told.extend(answer.text)
    return [len(told)] + told


def answers(calls):
    kit = Kit()
    feed = Feed(calls)
    told = []
    while feed.is_left():
        told.extend(laid_out(answer_next(kit, feed)))
    return told
