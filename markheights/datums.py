"""The calls on one object, and what they answer."""

from markheights.asked import told_by
from markheights.book import read_book
from markheights.calls import CALL_BOOK
from markheights.calls import calls_of
from markheights.refusals import NoBook
from markheights.refusals import Refusal


class Datums:
    def __init__(self):
        self.book = None

    def answer(self, call):
        if call.number == CALL_BOOK:
            return self.take_book(call.given[0])
        if self.book is None:
            raise NoBook()
        return told_by(self.book, call)

    # A text at fault is refused while it's read, so the book before it stays.
    def take_book(self, text):
        self.book = read_book(text)
        return [0]


def answer_or_refusal(datums, call):
    try:
        return datums.answer(call)
    except Refusal as refusal:
        return refusal.told


def answers(calls):
    datums = Datums()
    told = []
    for call in calls_of(calls):
        answer = answer_or_refusal(datums, call)
        told.append(len(answer))
        told.extend(answer)
    return told
