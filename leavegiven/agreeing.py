"""The calls that bring leave about: agree, redeem."""

from leavegiven.book import (
    LAST_PERSON, MOST_CODES, Code, Token, add_grant, has_room, is_fresh_pair, is_over, is_taken, is_within,
    kill_grant, secret_refusal,
)
from leavegiven.refusals import (
    ALIKE, FULL, NO_LONGER_GOOD, NO_PROGRAM, NOT_THERE, NOT_WITHIN,
    OTHER_PROGRAMS, OUT_OF_RANGE, OVER, WRONG_PROOF,
)
from leavegiven.sha256 import digest

LONGEST_V = 128


def agree(book, person, program, scopes, challenge, code):
    if person > LAST_PERSON or scopes == 0:
        return OUT_OF_RANGE
    if program >= len(book.programs):
        return NO_PROGRAM
    if not is_within(scopes, book.programs[program].scopes):
        return NOT_WITHIN
    if is_taken(book, code):
        return ALIKE
    if len(book.codes) >= MOST_CODES:
        return FULL
    book.codes[code] = Code(person, program, scopes, challenge, book.time + book.code_life)
    return 0


def code_refusal(book, program, found, v):
    """0 if the program may redeem the code found; kills the grant of a code that was redeemed before."""
    if found is None:
        return NOT_THERE
    if found.program != program:
        return OTHER_PROGRAMS
    if found.grant is not None:
        kill_grant(book, found.grant)
        return NO_LONGER_GOOD
    if is_over(book, found.ends):
        return OVER
    if digest(v) != found.challenge:
        return WRONG_PROOF
    return 0


def redeem(book, program, secret, code, v, a, r):
    if len(v) > LONGEST_V:
        return OUT_OF_RANGE
    refusal = secret_refusal(book, program, secret)
    if refusal != 0:
        return refusal
    found = book.codes.get(code)
    refusal = code_refusal(book, program, found, v)
    if refusal != 0:
        return refusal
    if not is_fresh_pair(book, a, r):
        return ALIKE
    if not has_room(book, 1, 2):
        return FULL
    found.grant = add_grant(book, found.person, program, found.scopes, None)
    book.tokens[a] = Token(True, found.grant, found.scopes, book.time + book.life)
    book.tokens[r] = Token(False, found.grant, found.scopes, book.time + book.renew_life)
    return 0
