"""What a book answers when it's asked: all calls but book."""

from markheights.calls import CALL_FIND
from markheights.calls import CALL_NAME
from markheights.calls import CALL_OVER
from markheights.calls import CALL_PRINTED
from markheights.calls import CALL_SIZE
from markheights.calls import CALL_WAY
from markheights.refusals import NoMark


# Texts and lists are told alike: how many numbers they have, then these.
def row_told(row):
    return [len(row)] + list(row)


def check_mark(book, mark):
    if mark >= len(book.names):
        raise NoMark()


def size_told(book):
    return [0, len(book.names), book.over_lines, book.forest.count_groups()]


def name_told(book, mark):
    check_mark(book, mark)
    return [0] + row_told(book.names[mark])


def find_told(book, row):
    name = tuple(row)
    if name not in book.mark_numbers:
        raise NoMark()
    return [0, book.mark_numbers[name]]


def over_told(book, lower, upper):
    check_mark(book, lower)
    check_mark(book, upper)
    if not book.forest.together(lower, upper):
        return [0]
    return [1, book.forest.rise(lower, upper)]


def way_told(book, start, goal):
    check_mark(book, start)
    check_mark(book, goal)
    if not book.forest.together(start, goal):
        return [0]
    return [1] + row_told(book.forest.way(start, goal))


def ends_told(book, mark):
    check_mark(book, mark)
    forest = book.forest
    return [0, forest.count_together(mark), forest.lowest(mark), forest.highest(mark)]


def told_by(book, call):
    given = call.given
    if call.number == CALL_PRINTED:
        return [0] + row_told(book.printed)
    if call.number == CALL_SIZE:
        return size_told(book)
    if call.number == CALL_NAME:
        return name_told(book, given[0])
    if call.number == CALL_FIND:
        return find_told(book, given[0])
    if call.number == CALL_OVER:
        return over_told(book, given[0], given[1])
    if call.number == CALL_WAY:
        return way_told(book, given[0], given[1])
    # ends alone is left: no other number is handed in
    return ends_told(book, given[0])
