"""The calls that set the stage: begin, now, program."""

from leavegiven.book import Program
from leavegiven.refusals import FULL, OUT_OF_RANGE

LONGEST_LIFE = 16777216
LAST_TIME = 1099511627776
MOST_PROGRAMS = 32


def is_life(number):
    return 1 <= number and number <= LONGEST_LIFE


def begin(book, code_life, life, renew_life):
    if not (is_life(code_life) and is_life(life) and is_life(renew_life)):
        return OUT_OF_RANGE
    book.start_anew(code_life, life, renew_life)
    return 0


def set_now(book, time):
    if time < book.time or time > LAST_TIME:
        return OUT_OF_RANGE
    book.time = time
    return 0


def add_program(book, scopes, secret):
    number = len(book.programs)
    if number >= MOST_PROGRAMS:
        return FULL
    book.programs.append(Program(secret, scopes))
    return number
