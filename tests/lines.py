"""Calls laid out as the interface tells, for the tests to put together."""

import hashlib

from leavegiven.desk import answers

MOST_SCOPES = 2 ** 32 - 1


def bytes_16(number):
    return list(number.to_bytes(16, "big"))


def sha256(v):
    return list(hashlib.sha256(bytes(v)).digest())


def row(numbers):
    return [len(numbers)] + list(numbers)


def begin(code_life=100, life=10, renew_life=1000):
    return [0, code_life, life, renew_life]


def now(t):
    return [1, t]


def program(secret, scopes=MOST_SCOPES):
    return [2, scopes] + row(secret)


def agree(code, person=0, program=0, scopes=1, v=()):
    return [3, person, program, scopes] + row(sha256(v)) + row(code)


def redeem(secret, code, a, r, program=0, v=()):
    return [4, program] + row(secret) + row(code) + row(v) + row(a) + row(r)


def flat(calls):
    return [number for call in calls for number in call]


def told(*calls):
    """The one number that each of these calls answers."""
    given = answers(flat(calls))
    if given[0::2] != [1] * len(calls):
        raise AssertionError("not one number for each call: %r" % (given,))
    return given[1::2]


def last(*calls):
    return told(*calls)[-1]
