"""The calls that end leave: withdraw, revoke."""

from leavegiven.book import LAST_PERSON, kill_grant, secret_refusal
from leavegiven.refusals import NO_PROGRAM, NOT_THERE, OTHER_PROGRAMS, OUT_OF_RANGE


def is_of(kept, person, program):
    """Of a code or a grant."""
    return kept.person == person and kept.program == program


def kill_grants(book, person, program):
    """How many of them weren't dead."""
    ended = 0
    for grant in book.grants:
        if is_of(grant, person, program) and not grant.dead:
            grant.dead = True
            ended += 1
    return ended


def drop_codes(book, person, program):
    """Redeemed ones stay: redeemed again they must still be known as such."""
    left = {}
    for name in book.codes:
        code = book.codes[name]
        if code.grant is not None or not is_of(code, person, program):
            left[name] = code
    book.codes = left


def withdraw(book, person, program):
    if person > LAST_PERSON:
        return OUT_OF_RANGE
    if program >= len(book.programs):
        return NO_PROGRAM
    drop_codes(book, person, program)
    return kill_grants(book, person, program)


def revoke(book, program, secret, t):
    refusal = secret_refusal(book, program, secret)
    if refusal != 0:
        return refusal
    token = book.tokens.get(t)
    if token is None:
        return NOT_THERE
    if book.grants[token.grant].program != program:
        return OTHER_PROGRAMS
    kill_grant(book, token.grant)
    return 0
