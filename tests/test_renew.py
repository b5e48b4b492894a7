"""Point 4: renew."""

import unittest

from leavegiven.book import Book, Grant, Token
from leavegiven.setting import add_program, begin as begin_in
from leavegiven.using import renew as renew_in
from tests.lines import MOST_SCOPES, agree, begin, bytes_16, check, hand, now, program, redeem, renew, revoke, withdraw
from tests.stage import (
    A, A_2, A_3, B, B_2, CODE, CODE_2, NOBODYS, OTHER_SECRET, R, R_2, R_3, REDEEMED, SECRET, START, after,
    with_tokens,
)

RENEWED = REDEEMED + (renew(SECRET, R, A_2, R_2, scopes=7),)


class Renew(unittest.TestCase):
    def test_renewed(self):
        self.assertEqual(after(REDEEMED, renew(SECRET, R, A_2, R_2, scopes=7)), [0])
        self.assertEqual(after(RENEWED, check(A_2, 7), check(A, 7)), [(1, 5, 0, 7), (1, 5, 0, 7)])
        self.assertEqual(after(RENEWED, renew(SECRET, R_2, A_3, R_3, scopes=7)), [0])

    def test_a_is_for_use_and_r2_for_renewing(self):
        self.assertEqual(after(RENEWED, check(R_2)), [-3])
        self.assertEqual(after(RENEWED, renew(SECRET, A_2, A_3, R_3)), [-3])
        self.assertEqual(after(RENEWED, hand(SECRET, A_2, B)), [0])
        self.assertEqual(after(RENEWED, hand(SECRET, R_2, B)), [-3])

    def test_a_has_the_scopes_asked_for(self):
        for scopes in (1, 2, 3, 4, 5, 6, 7):
            with self.subTest(scopes=scopes):
                call = renew(SECRET, R, A_2, R_2, scopes=scopes)
                self.assertEqual(after(REDEEMED, call, check(A_2)), [0, (1, 5, 0, scopes)])
                self.assertEqual(after(REDEEMED, call, check(A_2, 7)), [0, (1, 5, 0, 7) if scopes == 7 else -4])
                self.assertEqual(after(REDEEMED, call, check(A, 7)), [0, (1, 5, 0, 7)])

    def test_scopes_0(self):
        self.assertEqual(after(REDEEMED, renew(SECRET, R, A_2, R_2, scopes=0)), [-22])

    def test_no_such_program(self):
        for number in (4, 31, 32, 2 ** 32 - 1):
            self.assertEqual(after(REDEEMED, renew(SECRET, R, A_2, R_2, program=number)), [-2])

    def test_not_its_secret(self):
        self.assertEqual(after(REDEEMED, renew(OTHER_SECRET, R, A_2, R_2)), [-5])
        self.assertEqual(after(REDEEMED, renew(SECRET, R, A_2, R_2, program=1)), [-5])
        for place in range(16):
            wrong = list(SECRET)
            wrong[place] ^= 64
            self.assertEqual(after(REDEEMED, renew(wrong, R, A_2, R_2)), [-5])

    def test_no_such_token(self):
        line = RENEWED + (agree(CODE_2), hand(SECRET, A, B))
        for name in (NOBODYS, A, A_2, B, CODE, CODE_2, SECRET):
            self.assertEqual(after(line, renew(SECRET, name, A_3, R_3)), [-3])

    def test_another_programs(self):
        self.assertEqual(after(REDEEMED, renew(OTHER_SECRET, R, A_2, R_2, program=1)), [-1])
        # Handing on to a program doesn't let it renew.
        handed = hand(SECRET, A, B, to=1)
        self.assertEqual(after(REDEEMED, handed, renew(OTHER_SECRET, R, A_2, R_2, program=1)), [0, -1])

    def test_over(self):
        line = START + (now(7), agree(CODE, scopes=7), redeem(SECRET, CODE, A, R))
        for t, answer in ((7, 0), (16, 0), (17, 0), (56, 0), (57, -62), (58, -62), (2 ** 40, -62)):
            with self.subTest(t=t):
                self.assertEqual(after(line, now(t), renew(SECRET, R, A_2, R_2)), [0, answer])

    def test_lives_begin_anew(self):
        line = REDEEMED + (now(30), renew(SECRET, R, A_2, R_2))
        for t, use, renewing in ((39, (1, 5, 0, 1), 0), (40, -62, 0), (79, -62, 0), (80, -62, -62)):
            with self.subTest(t=t):
                calls = (now(t), check(A_2), renew(SECRET, R_2, A_3, R_3))
                self.assertEqual(after(line, *calls), [0, use, renewing])

    def test_the_old_token_for_use_ends_when_it_did(self):
        line = REDEEMED + (now(5), renew(SECRET, R, A_2, R_2))
        self.assertEqual(after(line, now(9), check(A), check(A_2)), [0, (1, 5, 0, 7), (1, 5, 0, 1)])
        self.assertEqual(after(line, now(10), check(A), check(A_2)), [0, -62, (1, 5, 0, 1)])
        self.assertEqual(after(line, now(15), check(A), check(A_2)), [0, -62, -62])

    def test_lives_at_their_edges(self):
        line = (begin(2 ** 24, 2 ** 24, 2 ** 24), program(SECRET), now(2 ** 40), agree(CODE))
        line = line + (redeem(SECRET, CODE, A, R),)
        calls = (renew(SECRET, R, A_2, R_2), check(A_2), renew(SECRET, R_2, A_3, R_3), check(A_3))
        self.assertEqual(after(line, *calls), [0, (1, 0, 0, 1), 0, (1, 0, 0, 1)])

    def test_scopes_within_the_grants(self):
        for scopes, answer in ((7, 0), (8, -4), (15, -4), (9, -4), (2 ** 31, -4), (MOST_SCOPES, -4)):
            with self.subTest(scopes=scopes):
                self.assertEqual(after(REDEEMED, renew(SECRET, R, A_2, R_2, scopes=scopes)), [answer])

    def test_scopes_beyond_the_last_a(self):
        line = REDEEMED + (renew(SECRET, R, A_2, R_2, scopes=1),)
        for scopes, answer in ((2, 0), (6, 0), (7, 0), (8, -4), (9, -4)):
            with self.subTest(scopes=scopes):
                shown = (1, 5, 0, scopes) if answer == 0 else -3
                calls = (renew(SECRET, R_2, A_3, R_3, scopes=scopes), check(A_3), check(A_2))
                self.assertEqual(after(line, *calls), [answer, shown, (1, 5, 0, 1)])

    def test_alike(self):
        line = REDEEMED + (agree(CODE_2), hand(SECRET, A, B))
        for taken in (CODE, CODE_2, A, R, B):
            for later in ((), (now(45),)):
                with self.subTest(taken=taken, later=later):
                    self.assertEqual(after(line + later, renew(SECRET, R, taken, R_2)), [-17])
                    self.assertEqual(after(line + later, renew(SECRET, R, A_2, taken)), [-17])
        self.assertEqual(after(line, renew(SECRET, R, A_2, A_2)), [-17])

    def test_alike_to_what_renew_brought(self):
        for taken in (A_2, R, R_2):
            self.assertEqual(after(RENEWED, renew(SECRET, R_2, taken, R_3)), [-17])
            self.assertEqual(after(RENEWED, renew(SECRET, R_2, A_3, taken)), [-17])

    def test_not_alike_to_a_secret_or_a_withdrawn_code(self):
        self.assertEqual(after(REDEEMED, renew(SECRET, R, SECRET, OTHER_SECRET)), [0])
        line = REDEEMED + (agree(CODE_2, person=6), withdraw(6, 0))
        self.assertEqual(after(line, renew(SECRET, R, CODE_2, R_2)), [0])

    def test_510_tokens_and_more(self):
        for count, answer in ((508, 0), (510, 0), (511, -28), (512, -28)):
            with self.subTest(count=count):
                line, r = with_tokens(count)
                self.assertEqual(after(line, renew(SECRET, r, A_2, R_2)), [answer])

    def test_128_grants_are_no_matter(self):
        line = REDEEMED + tuple(hand(SECRET, A, bytes_16(500 + k)) for k in range(127))
        calls = (hand(SECRET, A, B), renew(SECRET, R, A_2, R_2))
        self.assertEqual(after(line, *calls), [-28, 0])


class NoLongerGood(unittest.TestCase):
    def test_used_before(self):
        again = renew(SECRET, R, A_3, R_3)
        self.assertEqual(after(RENEWED, again, again), [-13, -13])

    def test_used_before_kills_the_grant(self):
        line = RENEWED + (hand(SECRET, A, B, to=1), hand(OTHER_SECRET, B, B_2, program=1, to=2))
        line = line + (agree(CODE_2, person=5), redeem(SECRET, CODE_2, A_3, R_3))
        calls = (check(A), check(A_2), check(B), check(B_2))
        good = [(1, 5, 0, 7), (1, 5, 0, 7), (1, 5, 1, 1), (1, 5, 2, 1)]
        self.assertEqual(after(line, *calls, check(A_3)), good + [(1, 5, 0, 1)])
        again = renew(SECRET, R, NOBODYS, bytes_16(98))
        self.assertEqual(after(line, again, *calls, check(A_3)), [-13] * 5 + [(1, 5, 0, 1)])
        self.assertEqual(after(line, again, renew(SECRET, R_2, NOBODYS, bytes_16(98))), [-13, -13])
        self.assertEqual(after(line, again, renew(SECRET, R_3, NOBODYS, bytes_16(98))), [-13, 0])

    def test_used_before_kills_whatever_else_is_wrong(self):
        line = REDEEMED + (now(45), renew(SECRET, R, A_2, R_2))
        self.assertEqual(after(line, check(A_2)), [(1, 5, 0, 1)])
        wrong = (
            renew(SECRET, R, A_3, R_3, scopes=8), renew(SECRET, R, A_3, A_3), renew(SECRET, R, A_2, CODE),
            renew(SECRET, R, A_2, R_2),
        )
        for call in wrong:
            self.assertEqual(after(line, call, check(A_2)), [-13, -13])
        self.assertEqual(after(line, now(52), check(A_2)), [0, (1, 5, 0, 1)])
        self.assertEqual(after(line, now(52), renew(SECRET, R, A_3, R_3), check(A_2)), [0, -13, -13])

    def test_what_is_refused_ahead_of_it_kills_nothing(self):
        wrong = (
            (renew(SECRET, R, A_3, R_3, scopes=0), -22), (renew(SECRET, R, A_3, R_3, program=4), -2),
            (renew(OTHER_SECRET, R, A_3, R_3), -5), (renew(OTHER_SECRET, R, A_3, R_3, program=1), -1),
        )
        for call, answer in wrong:
            self.assertEqual(after(RENEWED, call, check(A_2)), [answer, (1, 5, 0, 7)])

    def test_a_refused_renewal_does_not_use_the_token(self):
        wrong = (
            (renew(SECRET, R, A_2, R_2, scopes=0), -22), (renew(OTHER_SECRET, R, A_2, R_2), -5),
            (renew(OTHER_SECRET, R, A_2, R_2, program=1), -1), (renew(SECRET, R, A_2, R_2, scopes=8), -4),
            (renew(SECRET, R, A, R_2), -17),
        )
        for call, answer in wrong:
            calls = (call, renew(SECRET, R, A_2, R_2), check(A), check(A_2))
            self.assertEqual(after(REDEEMED, *calls), [answer, 0, (1, 5, 0, 7), (1, 5, 0, 1)])

    def test_refused_for_want_of_room_changes_nothing(self):
        line, r = with_tokens(511)
        refused = renew(SECRET, r, A_2, R_2)
        calls = (refused, refused, hand(SECRET, A, A_2, to=1), agree(R_2), check(A), renew(SECRET, r, A_3, R_3))
        self.assertEqual(after(line, *calls), [-28, -28, 0, 0, (1, 5, 0, 7), -28])

    def test_brings_no_tokens(self):
        calls = (renew(SECRET, R, A_3, R_3), agree(A_3), agree(R_3))
        self.assertEqual(after(RENEWED, *calls), [-13, 0, 0])

    def test_grant_not_alive(self):
        ends = (withdraw(5, 0), revoke(SECRET, A), revoke(SECRET, R), redeem(SECRET, CODE, A_3, R_3))
        for end in ends:
            for call in (renew(SECRET, R, A_2, R_2), renew(SECRET, R, A_2, A_2, scopes=8)):
                with self.subTest(end=end):
                    calls = (end, call, call, agree(A_2), agree(R_2), check(A))
                    self.assertEqual(after(REDEEMED, *calls)[1:], [-13, -13, 0, 0, -13])

    def test_another_grants_end_is_no_matter(self):
        line = REDEEMED + (hand(SECRET, A, B, to=1), hand(SECRET, A, B_2, to=0), withdraw(6, 0), withdraw(5, 1))
        line = line + (revoke(SECRET, B_2),)
        self.assertEqual(after(line, check(B), check(B_2), renew(SECRET, R, A_2, R_2)), [-13, -13, 0])


class FirstNamed(unittest.TestCase):
    """Each call would be refused for its own reason and for every later one that can go with it."""

    def test_in_order_with_no_room(self):
        line, r = with_tokens(512)
        cases = (
            (renew(OTHER_SECRET, NOBODYS, A, A, program=4, scopes=0), -22),
            (renew(OTHER_SECRET, R, A, A, program=0, scopes=0), -22),
            (renew(OTHER_SECRET, NOBODYS, A, A, program=4, scopes=8), -2),
            (renew(OTHER_SECRET, NOBODYS, A, A, scopes=8), -5),
            (renew(OTHER_SECRET, R, A, A, scopes=8), -5),
            (renew(SECRET, NOBODYS, A, A, scopes=8), -3),
            (renew(OTHER_SECRET, R, A, A, program=1, scopes=8), -1),
            (renew(SECRET, R, A, A, scopes=8), -13),
            (renew(SECRET, r, A, A, scopes=8), -4),
            (renew(SECRET, r, A_2, A_2), -17),
            (renew(SECRET, r, A, R_2), -17),
            (renew(SECRET, r, A_2, R_2), -28),
        )
        for call, answer in cases:
            with self.subTest(answer=answer):
                self.assertEqual(after(line, call), [answer])
        over = (now(50), renew(SECRET, r, A, A, scopes=8))
        self.assertEqual(after(line, *over), [0, -62])
        self.assertEqual(after(line, withdraw(5, 0), *over), [1, 0, -13])

    def test_ahead_of_over_are_1_and_13(self):
        self.assertEqual(after(RENEWED, now(50), renew(OTHER_SECRET, R, A, A, program=1)), [0, -1])
        self.assertEqual(after(RENEWED, now(50), renew(SECRET, R, A, A)), [0, -13])
        self.assertEqual(after(REDEEMED, now(50), revoke(SECRET, R), renew(SECRET, R, A, A)), [0, 0, -13])

    def test_ahead_of_13_is_1(self):
        calls = (revoke(SECRET, R), renew(OTHER_SECRET, R, A_3, R_3, program=1))
        self.assertEqual(after(RENEWED, *calls), [0, -1])


def book_with(grants, token):
    book = Book()
    begin_in(book, 100, 10, 50)
    add_program(book, 31, tuple(SECRET))
    book.grants.extend(grants)
    book.tokens[tuple(R)] = token
    return book


def renew_r(book, scopes):
    return renew_in(book, 0, tuple(SECRET), tuple(R), scopes, tuple(A_2), tuple(R_2))


class Kept(unittest.TestCase):
    """What no line of calls brings about or shows: a grant with a token for renewing always came of a code
    straight away, and has that token's scopes."""

    def test_dead_by_one_that_it_came_of(self):
        book = book_with([Grant(5, 0, 7, None), Grant(5, 0, 7, 0), Grant(5, 0, 7, 1)], Token(False, 2, 7, 50))
        book.grants[0].dead = True
        self.assertEqual(renew_r(book, 1), -13)
        self.assertEqual([grant.dead for grant in book.grants], [True, False, False])
        self.assertFalse(book.tokens[tuple(R)].used)
        book.grants[0].dead = False
        self.assertEqual(renew_r(book, 1), 0)

    def test_used_and_dead_by_one_that_it_came_of(self):
        book = book_with([Grant(5, 0, 7, None), Grant(5, 0, 7, 0)], Token(False, 1, 7, 50))
        book.grants[0].dead = True
        book.tokens[tuple(R)].used = True
        self.assertEqual(renew_r(book, 1), -13)
        self.assertEqual([grant.dead for grant in book.grants], [True, True])

    def test_scopes_of_the_grant_and_of_r(self):
        for scopes, answer in ((2, 0), (3, 0), (7, 0), (8, -4)):
            book = book_with([Grant(5, 0, 7, None)], Token(False, 0, 3, 50))
            self.assertEqual(renew_r(book, scopes), answer)
        self.assertEqual(renew_r(book_with([Grant(5, 0, 3, None)], Token(False, 0, 7, 50)), 7), -4)

    def test_the_new_tokens(self):
        book = book_with([Grant(6, 0, 1, None), Grant(5, 0, 7, None)], Token(False, 1, 3, 50))
        book.time = 20
        self.assertEqual(renew_r(book, 6), 0)
        self.assertTrue(book.tokens[tuple(R)].used)
        use = book.tokens[tuple(A_2)]
        self.assertEqual((use.for_use, use.grant, use.scopes, use.ends, use.used), (True, 1, 6, 30, False))
        renewing = book.tokens[tuple(R_2)]
        self.assertEqual((renewing.for_use, renewing.grant, renewing.scopes, renewing.ends), (False, 1, 3, 70))
        self.assertFalse(renewing.used)
        self.assertEqual((len(book.grants), len(book.tokens)), (2, 3))


if __name__ == "__main__":
    unittest.main()
