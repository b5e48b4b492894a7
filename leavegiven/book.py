"""What is kept between one call and the next of a line."""


class Program:
    def __init__(self, secret, scopes):
        self.secret = secret
        self.scopes = scopes


class Code:
    def __init__(self, person, program, scopes, challenge, ends):
        self.person = person
        self.program = program
        self.scopes = scopes
        self.challenge = challenge
        self.ends = ends
        # The number of the grant that came of it: None till it is redeemed.
        self.grant = None


class Grant:
    def __init__(self, person, program, scopes):
        self.person = person
        self.program = program
        self.scopes = scopes
        self.dead = False


class Token:
    def __init__(self, for_use, grant, scopes, ends):
        self.for_use = for_use
        self.grant = grant
        self.scopes = scopes
        self.ends = ends


class Book:
    """Programs and grants stand by their numbers; codes and tokens by their 16 bytes, as a tuple."""

    def __init__(self):
        self.start_anew(0, 0, 0)

    def start_anew(self, code_life, life, renew_life):
        self.code_life = code_life
        self.life = life
        self.renew_life = renew_life
        self.time = 0
        self.programs = []
        self.codes = {}
        self.grants = []
        self.tokens = {}


def is_taken(book, name):
    """Used and ended codes and tokens stay in the book, so that their bytes never stand for another."""
    return name in book.codes or name in book.tokens


def is_within(scopes, limit):
    return (scopes & limit) == scopes


def is_over(book, ends):
    return ends <= book.time
