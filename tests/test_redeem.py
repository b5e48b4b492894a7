"""Point 3: redeem."""

import unittest

from leavegiven.agreeing import agree as agree_in, redeem as redeem_in
from leavegiven.book import Book, Grant, Token
from leavegiven.setting import add_program, begin as begin_in, set_now
from tests.lines import (
    agree, begin, bytes_16, check, hand, last, now, program, redeem, sha256, told, withdraw,
)
from tests.stage import (
    A, A_2, B, B_2, B_3, CODE, CODE_2, OTHER_SECRET, R, R_2, SECRET, after, with_grants, with_tokens,
)

V = [5, 6, 7]
START = (begin(), program(SECRET), program(OTHER_SECRET))
AGREED = START + (agree(CODE, v=V), agree(CODE_2, v=V))
REDEEMED = AGREED + (redeem(SECRET, CODE, A, R, v=V),)


class Redeem(unittest.TestCase):
    def test_redeemed(self):
        self.assertEqual(told(*REDEEMED), [0, 0, 1, 0, 0, 0])

    def test_v_at_its_lengths(self):
        for length in (0, 1, 55, 56, 63, 64, 119, 120, 127, 128):
            with self.subTest(length=length):
                v = [(7 * k + length) % 256 for k in range(length)]
                self.assertEqual(last(*START, agree(CODE, v=v), redeem(SECRET, CODE, A, R, v=v)), 0)

    def test_v_too_long(self):
        for length in (129, 130, 200):
            with self.subTest(length=length):
                v = [1] * length
                self.assertEqual(last(*START, agree(CODE, v=v), redeem(SECRET, CODE, A, R, v=v)), -22)

    def test_no_such_program(self):
        for number in (2, 32, 2 ** 32 - 1):
            self.assertEqual(last(*AGREED, redeem(SECRET, CODE, A, R, program=number, v=V)), -2)

    def test_not_its_secret(self):
        self.assertEqual(last(*AGREED, redeem(OTHER_SECRET, CODE, A, R, v=V)), -5)
        for place in range(16):
            wrong = list(SECRET)
            wrong[place] ^= 1
            self.assertEqual(last(*AGREED, redeem(wrong, CODE, A, R, v=V)), -5)

    def test_no_such_code(self):
        self.assertEqual(last(*AGREED, redeem(SECRET, bytes_16(12), A, R, v=V)), -3)
        self.assertEqual(last(*REDEEMED, redeem(SECRET, A, A_2, R_2, v=V)), -3)
        self.assertEqual(last(*REDEEMED, redeem(SECRET, R, A_2, R_2, v=V)), -3)

    def test_another_programs(self):
        self.assertEqual(last(*AGREED, redeem(OTHER_SECRET, CODE, A, R, program=1, v=V)), -1)

    def test_a_second_time(self):
        self.assertEqual(last(*REDEEMED, redeem(SECRET, CODE, A_2, R_2, v=V)), -13)
        again = redeem(SECRET, CODE, A_2, R_2, v=V)
        self.assertEqual(told(*REDEEMED, again, again)[-2:], [-13, -13])

    def test_over(self):
        line = (begin(code_life=10), program(SECRET), now(7), agree(CODE, v=V))
        for t, answer in ((7, 0), (16, 0), (17, -62), (18, -62), (2 ** 40, -62)):
            with self.subTest(t=t):
                self.assertEqual(last(*line, now(t), redeem(SECRET, CODE, A, R, v=V)), answer)

    def test_over_at_the_last_time(self):
        line = (begin(code_life=1), program(SECRET), now(2 ** 40), agree(CODE, v=V))
        self.assertEqual(last(*line, redeem(SECRET, CODE, A, R, v=V)), 0)

    def test_not_its_challenge(self):
        for v in ([], [5, 6], [5, 6, 8], [5, 6, 7, 0], [0, 5, 6, 7], sha256(V), [0] * 128):
            with self.subTest(v=v):
                self.assertEqual(last(*AGREED, redeem(SECRET, CODE, A, R, v=v)), -71)

    def test_each_byte_of_the_challenge_counts(self):
        for place in range(32):
            call = agree(CODE, v=V)
            call[5 + place] ^= 1
            self.assertEqual(last(*START, call, redeem(SECRET, CODE, A, R, v=V)), -71)

    def test_a_and_r_alike(self):
        self.assertEqual(last(*AGREED, redeem(SECRET, CODE, A, A, v=V)), -17)

    def test_alike_to_a_code(self):
        for taken in (CODE, CODE_2):
            self.assertEqual(last(*AGREED, redeem(SECRET, CODE, taken, R, v=V)), -17)
            self.assertEqual(last(*AGREED, redeem(SECRET, CODE, A, taken, v=V)), -17)

    def test_alike_to_a_token(self):
        for taken in (CODE, A, R):
            for line in (REDEEMED, REDEEMED + (now(99),)):
                self.assertEqual(last(*line, redeem(SECRET, CODE_2, taken, R_2, v=V)), -17)
                self.assertEqual(last(*line, redeem(SECRET, CODE_2, A_2, taken, v=V)), -17)

    def test_a_secret_is_not_a_token(self):
        self.assertEqual(last(*AGREED, redeem(SECRET, CODE, SECRET, OTHER_SECRET, v=V)), 0)

    def test_100_of_128_codes_are_redeemed(self):
        agreed = [agree(bytes_16(1000 + k)) for k in range(128)]
        redeemed = [redeem(SECRET, bytes_16(1000 + k), bytes_16(3000 + k), bytes_16(5000 + k)) for k in range(100)]
        self.assertEqual(told(begin(), program(SECRET), *agreed, *redeemed), [0] * 230)

    def test_refused_changes_nothing(self):
        good = redeem(SECRET, CODE, A, R, v=V)
        refused = (
            redeem(SECRET, CODE, A, R, v=[1] * 129),
            redeem(SECRET, CODE, A, R, program=2, v=V),
            redeem(OTHER_SECRET, CODE, A, R, v=V),
            redeem(SECRET, bytes_16(12), A, R, v=V),
            redeem(OTHER_SECRET, CODE, A, R, program=1, v=V),
            redeem(SECRET, CODE, A, R, v=[]),
            redeem(SECRET, CODE, A, A, v=V),
            redeem(SECRET, CODE, A, CODE, v=V),
            redeem(SECRET, CODE, CODE, R, v=V),
        )
        for call in refused:
            with self.subTest(call=call):
                self.assertLess(last(*AGREED, call), 0)
                self.assertEqual(last(*AGREED, call, good), 0)
                self.assertEqual(told(*AGREED, call, agree(A), agree(R))[-2:], [0, 0])

    def test_a_second_time_brings_no_tokens(self):
        line = REDEEMED + (redeem(SECRET, CODE, A_2, R_2, v=V),)
        self.assertEqual(told(*line, agree(A_2), agree(R_2))[-2:], [0, 0])


class FirstNamed(unittest.TestCase):
    """Each call would be refused for its own reason and for every later one that can go with it."""

    def answer(self, *calls):
        return last(begin(code_life=50), program(SECRET), program(OTHER_SECRET), *calls)

    def test_ahead_of_all_is_22(self):
        too_long = [1] * 129
        self.assertEqual(self.answer(redeem(OTHER_SECRET, CODE, A, A, program=2, v=too_long)), -22)
        self.assertEqual(self.answer(redeem(OTHER_SECRET, CODE, A, A, v=too_long)), -22)
        self.assertEqual(self.answer(redeem(SECRET, CODE, A, A, v=too_long)), -22)
        line = (agree(CODE, v=V), redeem(SECRET, CODE, A, R, v=V))
        self.assertEqual(self.answer(*line, redeem(SECRET, CODE, A, R, v=too_long)), -22)

    def test_then_2_and_5(self):
        self.assertEqual(self.answer(redeem(OTHER_SECRET, CODE, A, A, program=2)), -2)
        self.assertEqual(self.answer(redeem(OTHER_SECRET, CODE, A, A)), -5)
        line = (agree(CODE, v=V), redeem(SECRET, CODE, A, R, v=V), now(60))
        self.assertEqual(self.answer(*line, redeem(SECRET, CODE, A, A, program=2)), -2)
        self.assertEqual(self.answer(*line, redeem(OTHER_SECRET, CODE, A, A)), -5)
        self.assertEqual(self.answer(*line, redeem(SECRET, CODE, A, A, program=1)), -5)

    def test_then_3(self):
        self.assertEqual(self.answer(redeem(SECRET, CODE, A, A)), -3)

    def test_then_1(self):
        line = (agree(CODE, v=V), redeem(SECRET, CODE, A, R, v=V), now(60))
        self.assertEqual(self.answer(*line, redeem(OTHER_SECRET, CODE, A, A, program=1)), -1)

    def test_then_13(self):
        line = (agree(CODE, v=V), redeem(SECRET, CODE, A, R, v=V), now(60))
        self.assertEqual(self.answer(*line, redeem(SECRET, CODE, A, A)), -13)

    def test_then_62(self):
        line = (agree(CODE, v=V), now(60))
        self.assertEqual(self.answer(*line, redeem(SECRET, CODE, A, A)), -62)

    def test_then_71(self):
        self.assertEqual(self.answer(agree(CODE, v=V), redeem(SECRET, CODE, A, A)), -71)


def book_with_a_code(grants, tokens):
    """One code that's ready to redeem, beside so many grants and tokens of another sort."""
    book = Book()
    begin_in(book, 100, 10, 1000)
    add_program(book, 7, tuple(SECRET))
    set_now(book, 40)
    agree_in(book, 3, 0, 5, tuple(sha256(V)), tuple(CODE))
    for k in range(grants):
        book.grants.append(Grant(0, 0, 1, None))
    for k in range(tokens):
        book.tokens[tuple(bytes_16(9000 + k))] = Token(True, 0, 1, 50)
    return book


def redeem_code(book, secret=SECRET, v=V, a=A, r=R):
    return redeem_in(book, 0, tuple(secret), tuple(CODE), tuple(v), tuple(a), tuple(r))


class NoRoom(unittest.TestCase):
    """The lines with so many tokens are longer than the interface allows; what they bring about isn't."""

    def test_128_grants(self):
        for count, answer in ((127, 0), (128, -28)):
            line = with_grants(count) + (agree(CODE_2, v=V),)
            self.assertEqual(after(line, redeem(SECRET, CODE_2, A_2, R_2, v=V)), [answer])

    def test_128_grants_of_which_some_are_dead(self):
        line = with_grants(128) + (withdraw(5, 1), agree(CODE_2, v=V))
        self.assertEqual(after(line, redeem(SECRET, CODE_2, A_2, R_2, v=V)), [-28])

    def test_128_codes_redeemed(self):
        line = START
        for k in range(128):
            code = bytes_16(1000 + k)
            line = line + (agree(code), redeem(SECRET, code, bytes_16(2000 + k), bytes_16(3000 + k)))
        self.assertEqual(after(line, agree(CODE), check(bytes_16(2127))), [-28, (1, 0, 0, 1)])

    def test_510_tokens_and_more(self):
        for count, answer in ((509, 0), (510, 0), (511, -28), (512, -28)):
            line = with_tokens(count)[0] + (agree(CODE_2, v=V),)
            self.assertEqual(after(line, redeem(SECRET, CODE_2, A_2, R_2, v=V)), [answer])

    def test_28_comes_last_and_changes_nothing(self):
        for line in (with_grants(128), with_tokens(511)[0]):
            line = line + (agree(CODE_2, person=6, v=V),)
            self.assertEqual(after(line, redeem(SECRET, CODE_2, A_2, R_2)), [-71])
            self.assertEqual(after(line, redeem(SECRET, CODE_2, A_2, A_2, v=V)), [-17])
            refused = redeem(SECRET, CODE_2, A_2, R_2, v=V)
            later = (agree(A_2), agree(R_2), check(A), withdraw(6, 0), redeem(SECRET, CODE_2, A_2, R_2, v=V))
            self.assertEqual(after(line, refused, refused, *later), [-28, -28] + after(line, *later))


class Twice(unittest.TestCase):
    """All that came of a code redeemed twice is over."""

    def test_its_grant_and_what_came_of_it(self):
        line = REDEEMED + (redeem(SECRET, CODE_2, A_2, R_2, v=V), hand(SECRET, A, B, to=1))
        checks = (check(A), check(B), check(A_2))
        self.assertEqual(after(line, *checks), [(1, 0, 0, 1), (1, 0, 1, 1), (1, 0, 0, 1)])
        again = redeem(SECRET, CODE, B_2, B_3, v=V)
        self.assertEqual(after(line, again, *checks), [-13, -13, -13, (1, 0, 0, 1)])
        self.assertEqual(after(line, again, again, withdraw(0, 0), withdraw(0, 1)), [-13, -13, 1, 1])

    def test_whatever_else_is_wrong(self):
        line = (begin(code_life=5, life=10), program(SECRET), agree(CODE, v=V), redeem(SECRET, CODE, A, R, v=V))
        for again in (redeem(SECRET, CODE, A, A), redeem(SECRET, CODE, A_2, R_2, v=[])):
            for t in (0, 4, 5, 9):
                self.assertEqual(after(line, now(t), again, check(A)), [0, -13, -13])

    def test_what_is_refused_ahead_of_it_kills_nothing(self):
        wrong = (
            (redeem(SECRET, CODE, A_2, R_2, v=[1] * 129), -22), (redeem(SECRET, CODE, A_2, R_2, program=2, v=V), -2),
            (redeem(OTHER_SECRET, CODE, A_2, R_2, v=V), -5), (redeem(SECRET, A, A_2, R_2, v=V), -3),
            (redeem(OTHER_SECRET, CODE, A_2, R_2, program=1, v=V), -1),
        )
        for call, answer in wrong:
            self.assertEqual(after(REDEEMED, call, check(A)), [answer, (1, 0, 0, 1)])


class Kept(unittest.TestCase):
    """The same, looked up where it is kept."""

    def test_the_grant_and_its_tokens(self):
        book = book_with_a_code(4, 0)
        self.assertEqual(redeem_code(book), 0)
        self.assertEqual(len(book.grants), 5)
        self.assertEqual(len(book.tokens), 2)
        grant = book.grants[4]
        self.assertEqual((grant.person, grant.program, grant.scopes, grant.dead), (3, 0, 5, False))
        self.assertIsNone(grant.handed_from)
        use = book.tokens[tuple(A)]
        self.assertEqual((use.for_use, use.grant, use.scopes, use.ends), (True, 4, 5, 50))
        renewing = book.tokens[tuple(R)]
        self.assertEqual((renewing.for_use, renewing.grant, renewing.scopes, renewing.ends), (False, 4, 5, 1040))

    def test_a_second_time_kills_its_grant_alone(self):
        book = book_with_a_code(1, 0)
        redeem_code(book)
        book.grants.append(Grant(3, 0, 5, None))
        self.assertEqual([grant.dead for grant in book.grants], [False, False, False])
        self.assertEqual(redeem_code(book), -13)
        self.assertEqual([grant.dead for grant in book.grants], [False, True, False])
        self.assertEqual(len(book.tokens), 2)

    def test_a_second_time_kills_when_the_code_is_over_and_v_wrong(self):
        book = book_with_a_code(0, 0)
        redeem_code(book)
        set_now(book, 9000)
        self.assertEqual(redeem_code(book, v=[]), -13)
        self.assertTrue(book.grants[0].dead)

    def test_what_is_refused_ahead_of_13_kills_nothing(self):
        book = book_with_a_code(0, 0)
        add_program(book, 7, tuple(OTHER_SECRET))
        redeem_code(book)
        self.assertEqual(redeem_code(book, v=[1] * 129), -22)
        self.assertEqual(redeem_code(book, secret=OTHER_SECRET), -5)
        other = (tuple(OTHER_SECRET), tuple(CODE), tuple(V), tuple(A_2), tuple(R_2))
        self.assertEqual(redeem_in(book, 1, *other), -1)
        self.assertEqual(redeem_in(book, 2, *other), -2)
        self.assertFalse(book.grants[0].dead)

    def test_128_grants(self):
        self.assertEqual(redeem_code(book_with_a_code(127, 0)), 0)
        self.assertEqual(redeem_code(book_with_a_code(128, 0)), -28)

    def test_510_tokens_and_more(self):
        self.assertEqual(redeem_code(book_with_a_code(1, 510)), 0)
        self.assertEqual(redeem_code(book_with_a_code(1, 511)), -28)
        self.assertEqual(redeem_code(book_with_a_code(1, 512)), -28)

    def test_28_comes_last_and_changes_nothing(self):
        for grants, tokens in ((128, 0), (1, 511)):
            book = book_with_a_code(grants, tokens)
            self.assertEqual(redeem_code(book, v=[]), -71)
            self.assertEqual(redeem_code(book, r=A), -17)
            self.assertEqual(redeem_code(book, a=CODE), -17)
            self.assertEqual(redeem_code(book), -28)
            self.assertEqual(redeem_code(book), -28)
            self.assertEqual((len(book.grants), len(book.tokens)), (grants, tokens))


if __name__ == "__main__":
    unittest.main()
