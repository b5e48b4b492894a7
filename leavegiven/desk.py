"""The desk: a list of calls comes in, the list of their answers goes out."""

from leavegiven.agreeing import agree, redeem
from leavegiven.book import Book
from leavegiven.ending import revoke, withdraw
from leavegiven.setting import add_program, begin, set_now
from leavegiven.using import check, hand, renew

BEGIN = 0
NOW = 1
PROGRAM = 2
AGREE = 3
REDEEM = 4
RENEW = 5
HAND = 6
CHECK = 7
WITHDRAW = 8

# By a call's number: how many whole numbers and how many rows it has.
SHAPES = {
    0: (3, 0), 1: (1, 0), 2: (1, 1), 3: (3, 2), 4: (1, 5),
    5: (2, 4), 6: (3, 3), 7: (1, 1), 8: (2, 0), 9: (1, 2),
}


class Call:
    def __init__(self, number, numbers, rows, behind):
        self.number = number
        self.numbers = numbers
        self.rows = rows
        # Where in the list the next call stands.
        self.behind = behind


def read_call(calls, place):
    """Rows are read as tuples, so that they can stand as keys."""
    shape = SHAPES[calls[place]]
    behind = place + 1 + shape[0]
    numbers = calls[place + 1:behind]
    rows = []
    for k in range(shape[1]):
        start = behind + 1
        behind = start + calls[behind]
        rows.append(tuple(calls[start:behind]))
    return Call(calls[place], numbers, rows, behind)


def answer_to(book, call):
    """What the call answers, as a list; book is changed as the call asks."""
    numbers = call.numbers
    rows = call.rows
    if call.number == BEGIN:
        return [begin(book, numbers[0], numbers[1], numbers[2])]
    if call.number == NOW:
        return [set_now(book, numbers[0])]
    if call.number == PROGRAM:
        return [add_program(book, numbers[0], rows[0])]
    if call.number == AGREE:
        return [agree(book, numbers[0], numbers[1], numbers[2], rows[0], rows[1])]
    if call.number == REDEEM:
        return [redeem(book, numbers[0], rows[0], rows[1], rows[2], rows[3], rows[4])]
    if call.number == RENEW:
        return [renew(book, numbers[0], rows[0], rows[1], numbers[1], rows[2], rows[3])]
    if call.number == HAND:
        return [hand(book, numbers[0], rows[0], rows[1], numbers[1], numbers[2], rows[2])]
    if call.number == CHECK:
        return check(book, rows[0], numbers[0])
    if call.number == WITHDRAW:
        return [withdraw(book, numbers[0], numbers[1])]
    # read_call takes no number but these, so what is left is revoke.
    return [revoke(book, numbers[0], rows[0], rows[1])]


def answers(calls):
    """The answers to all calls on one new object, each with its count of numbers before it."""
    book = Book()
    told = []
    place = 0
    while place < len(calls):
        call = read_call(calls, place)
        answer = answer_to(book, call)
        told.append(len(answer))
        told.extend(answer)
        place = call.behind
    return told
