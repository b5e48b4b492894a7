"""What is kept between one call and the next of a line, and what several calls ask of it or do to it."""

from leavegiven.refusals import NO_PROGRAM, WRONG_SECRET

LAST_PERSON = 63
MOST_CODES = 128
MOST_GRANTS = 128
MOST_TOKENS = 512


class Program:
    def __init__(self, secret, scopes):
        self.secret = secret
        self.scopes = scopes


class Code:
    def __init__(self, person, program, scopes, challenge, ends):
        self.person = person
        self.program = program
        self.scopes = scopes
        self.challenge = challenge
        self.ends = ends
        # The number of the grant that came of it: None till it is redeemed.
        self.grant = None


class Grant:
    def __init__(self, person, program, scopes, handed_from):
        self.person = person
        self.program = program
        self.scopes = scopes
        # The number of another grant: None if it came of a code.
        self.handed_from = handed_from
        # Of itself alone: what it came of may be dead and leave it no longer alive.
        self.dead = False


class Token:
    def __init__(self, for_use, grant, scopes, ends):
        self.for_use = for_use
        self.grant = grant
        self.scopes = scopes
        self.ends = ends
        # A token for renewing is good for a single time.
        self.used = False


class Book:
    """Programs and grants stand by their numbers; codes and tokens by their 16 bytes, as a tuple."""

    def __init__(self):
        self.start_anew(0, 0, 0)

    def start_anew(self, code_life, life, renew_life):
        self.code_life = code_life
        self.life = life
        self.renew_life = renew_life
        self.time = 0
        self.programs = []
        self.codes = {}
        self.grants = []
        self.tokens = {}


def is_within(scopes, limit):
    return (scopes & limit) == scopes


def is_over(book, ends):
    return ends <= book.time


def is_taken(book, name):
    """Codes and tokens that are used or over are still there, so their bytes can't stand for another."""
    return name in book.codes or name in book.tokens


def is_fresh_pair(book, a, r):
    return a != r and not is_taken(book, a) and not is_taken(book, r)


def has_room(book, grants, tokens):
    """Whether so many more of both can be kept."""
    return len(book.grants) + grants <= MOST_GRANTS and len(book.tokens) + tokens <= MOST_TOKENS


def secret_refusal(book, program, secret):
    """0 if the secret is the program's."""
    if program >= len(book.programs):
        return NO_PROGRAM
    if book.programs[program].secret != secret:
        return WRONG_SECRET
    return 0


def chain_of(book, number):
    """The grant of that number, and behind it all that it came of."""
    chain = []
    while number is not None:
        grant = book.grants[number]
        chain.append(grant)
        number = grant.handed_from
    return chain


def is_alive(book, number):
    return not any([grant.dead for grant in chain_of(book, number)])


def kill_grant(book, number):
    grant = book.grants[number]
    grant.dead = True


def add_grant(book, person, program, scopes, handed_from):
    """The number of the new grant."""
    book.grants.append(Grant(person, program, scopes, handed_from))
    return len(book.grants) - 1
