"""Calls laid out as the interface tells, for the tests to put together."""

import hashlib

from leavegiven.desk import answers

MOST_SCOPES = 2 ** 32 - 1


def bytes_16(number):
    return list(number.to_bytes(16, "big"))


def sha256(v):
    return list(hashlib.sha256(bytes(v)).digest())


def row(numbers):
    return [len(numbers)] + list(numbers)


def begin(code_life=100, life=10, renew_life=1000):
    return [0, code_life, life, renew_life]


def now(t):
    return [1, t]


def program(secret, scopes=MOST_SCOPES):
    return [2, scopes] + row(secret)


def agree(code, person=0, program=0, scopes=1, v=()):
    return [3, person, program, scopes] + row(sha256(v)) + row(code)


def redeem(secret, code, a, r, program=0, v=()):
    return [4, program] + row(secret) + row(code) + row(v) + row(a) + row(r)


def renew(secret, r, a, r2, program=0, scopes=1):
    return [5, program, scopes] + row(secret) + row(r) + row(a) + row(r2)


def hand(secret, a, b, program=0, to=0, scopes=1):
    return [6, program, to, scopes] + row(secret) + row(a) + row(b)


def check(a, scopes=0):
    return [7, scopes] + row(a)


def withdraw(person=0, program=0):
    return [8, person, program]


def revoke(secret, t, program=0):
    return [9, program] + row(secret) + row(t)


def flat(calls):
    return [number for call in calls for number in call]


def parted(given):
    """For each call what it answers: a number, or a tuple of several."""
    parts = []
    place = 0
    while place < len(given):
        part = tuple(given[place + 1:place + 1 + given[place]])
        parts.append(part[0] if len(part) == 1 else part)
        place += 1 + given[place]
    return parts


def told(*calls):
    parts = parted(answers(flat(calls)))
    if len(parts) != len(calls):
        raise AssertionError("%d calls, %d answers" % (len(calls), len(parts)))
    return parts


def last(*calls):
    return told(*calls)[-1]
