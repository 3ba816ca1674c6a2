"""The calls on one object, and what they answer."""

from markheights.book import read_book
from markheights.calls import calls_of
from markheights.refusals import NoBook
from markheights.refusals import NoMark
from markheights.refusals import Refusal

CALL_BOOK = 0
CALL_PRINTED = 1
CALL_SIZE = 2
CALL_NAME = 3


# A call that the interface names but that can't be answered so far.
class NotBuilt(Exception):
    pass


class Datums:
    def __init__(self):
        self.book = None

    def answer(self, call):
        if call.number == CALL_BOOK:
            return self.take_book(call.given[0])
        if self.book is None:
            raise NoBook()
        if call.number == CALL_PRINTED:
            return [0] + text_told(self.book.printed)
        if call.number == CALL_SIZE:
            return [0, len(self.book.names), self.book.over_lines, self.book.forest.count_groups()]
        if call.number == CALL_NAME:
            return [0] + text_told(self.name_of(call.given[0]))
        raise NotBuilt(call.number)

    # A text at fault is refused while it's read, so the book before it stays.
    def take_book(self, text):
        self.book = read_book(text)
        return [0]

    def name_of(self, mark):
        if mark >= len(self.book.names):
            raise NoMark()
        return self.book.names[mark]


def text_told(text):
    return [len(text)] + list(text)


def answer_or_refusal(datums, call):
    try:
        return datums.answer(call)
    except Refusal as refusal:
        return refusal.told


def answers(calls):
    datums = Datums()
    told = []
    for call in calls_of(calls):
        answer = answer_or_refusal(datums, call)
        told.append(len(answer))
        told.extend(answer)
    return told
