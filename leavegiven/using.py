"""The calls that make use of tokens: renew, hand, check."""

from leavegiven.book import (
    Token, add_grant, chain_of, has_room, is_alive, is_fresh_pair, is_over, is_taken, is_within, kill_grant,
    secret_refusal,
)
from leavegiven.refusals import (
    ALIKE, FULL, NO_LONGER_GOOD, NO_PROGRAM, NOT_THERE, NOT_WITHIN,
    OTHER_PROGRAMS, OUT_OF_RANGE, OVER, TOO_FAR,
)

LONGEST_CHAIN = 8


def token_for_use(book, name):
    """None if there is no such token."""
    token = book.tokens.get(name)
    if token is not None and token.for_use:
        return token
    return None


def token_for_renewing(book, name):
    """None if there is no such token."""
    token = book.tokens.get(name)
    if token is not None and not token.for_use:
        return token
    return None


def end_refusal(book, token):
    """0 if the token's grant is alive and the token isn't over."""
    if not is_alive(book, token.grant):
        return NO_LONGER_GOOD
    if is_over(book, token.ends):
        return OVER
    return 0


def renewing_refusal(book, program, token):
    """0 if the program may renew by the token; kills the grant of a token that was used before."""
    if token is None:
        return NOT_THERE
    if book.grants[token.grant].program != program:
        return OTHER_PROGRAMS
    if token.used:
        kill_grant(book, token.grant)
        return NO_LONGER_GOOD
    return end_refusal(book, token)


def renew(book, program, secret, r, scopes, a, r2):
    if scopes == 0:
        return OUT_OF_RANGE
    refusal = secret_refusal(book, program, secret)
    if refusal != 0:
        return refusal
    token = token_for_renewing(book, r)
    refusal = renewing_refusal(book, program, token)
    if refusal != 0:
        return refusal
    if not is_within(scopes, book.grants[token.grant].scopes):
        return NOT_WITHIN
    if not is_fresh_pair(book, a, r2):
        return ALIKE
    if not has_room(book, 0, 2):
        return FULL
    token.used = True
    book.tokens[a] = Token(True, token.grant, scopes, book.time + book.life)
    book.tokens[r2] = Token(False, token.grant, token.scopes, book.time + book.renew_life)
    return 0


def handing_refusal(book, program, token, to, scopes):
    """0 if the program may hand on these scopes of the token to the program to."""
    if to >= len(book.programs):
        return NO_PROGRAM
    if token is None:
        return NOT_THERE
    if book.grants[token.grant].program != program:
        return OTHER_PROGRAMS
    refusal = end_refusal(book, token)
    if refusal != 0:
        return refusal
    if not is_within(scopes, token.scopes) or not is_within(scopes, book.programs[to].scopes):
        return NOT_WITHIN
    if len(chain_of(book, token.grant)) >= LONGEST_CHAIN:
        return TOO_FAR
    return 0


def hand(book, program, secret, a, to, scopes, b):
    if scopes == 0:
        return OUT_OF_RANGE
    refusal = secret_refusal(book, program, secret)
    if refusal != 0:
        return refusal
    token = token_for_use(book, a)
    refusal = handing_refusal(book, program, token, to, scopes)
    if refusal != 0:
        return refusal
    if is_taken(book, b):
        return ALIKE
    if not has_room(book, 1, 1):
        return FULL
    person = book.grants[token.grant].person
    grant = add_grant(book, person, to, scopes, token.grant)
    book.tokens[b] = Token(True, grant, scopes, min(book.time + book.life, token.ends))
    return 0


def check(book, a, scopes):
    """A list: a refusal alone, or 1 and the grant's person, its program and the token's scopes."""
    token = token_for_use(book, a)
    if token is None:
        return [NOT_THERE]
    refusal = end_refusal(book, token)
    if refusal != 0:
        return [refusal]
    if not is_within(scopes, token.scopes):
        return [NOT_WITHIN]
    grant = book.grants[token.grant]
    return [1, grant.person, grant.program, token.scopes]
