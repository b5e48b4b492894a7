"""Point 5: hand."""

import unittest

from leavegiven.book import Book, Grant, Token
from leavegiven.setting import add_program, begin as begin_in
from leavegiven.using import hand as hand_in
from tests.lines import MOST_SCOPES, agree, bytes_16, check, hand, now, program, redeem, renew, revoke, withdraw
from tests.stage import (
    A, A_2, B, B_2, B_3, CODE, CODE_2, NARROW_SECRET, NOBODYS, OTHER_SECRET, R, R_2, R_3, REDEEMED, SECRET, START,
    THIRD_SECRET, after, chain_name, with_chain, with_grants, with_tokens,
)

HANDED = REDEEMED + (hand(SECRET, A, B, to=1, scopes=3),)


class Hand(unittest.TestCase):
    def test_handed(self):
        calls = (hand(SECRET, A, B, to=1, scopes=3), check(B, 3), check(A, 7))
        self.assertEqual(after(REDEEMED, *calls), [0, (1, 5, 1, 3), (1, 5, 0, 7)])

    def test_handed_on(self):
        calls = (hand(OTHER_SECRET, B, B_2, program=1, to=2, scopes=2), check(B_2, 2), check(B_2, 1), check(B))
        self.assertEqual(after(HANDED, *calls), [0, (1, 5, 2, 2), -4, (1, 5, 1, 3)])

    def test_of_the_same_person_and_of_the_program_to(self):
        line = START + (agree(CODE, person=63, program=2, scopes=16), redeem(THIRD_SECRET, CODE, A, R, program=2))
        for to, scopes in ((0, 16), (1, 16), (2, 16)):
            call = hand(THIRD_SECRET, A, B, program=2, to=to, scopes=scopes)
            self.assertEqual(after(line, call, check(B)), [0, (1, 63, to, 16)])

    def test_to_itself(self):
        self.assertEqual(after(REDEEMED, hand(SECRET, A, B, to=0, scopes=7), check(B)), [0, (1, 5, 0, 7)])

    def test_several_times_by_one_token(self):
        calls = (hand(SECRET, A, B, to=1), hand(SECRET, A, B_2, to=1), hand(SECRET, A, B_3, to=2))
        self.assertEqual(after(REDEEMED, *calls), [0, 0, 0])

    def test_b_is_for_use(self):
        self.assertEqual(after(HANDED, renew(OTHER_SECRET, B, A_2, R_2, program=1)), [-3])

    def test_by_a_renewed_token(self):
        line = REDEEMED + (renew(SECRET, R, A_2, R_2, scopes=2),)
        calls = (hand(SECRET, A_2, B, to=1, scopes=2), check(B), hand(SECRET, A_2, B_2, to=1, scopes=1))
        self.assertEqual(after(line, *calls), [0, (1, 5, 1, 2), -4])

    def test_scopes_0(self):
        self.assertEqual(after(REDEEMED, hand(SECRET, A, B, to=1, scopes=0)), [-22])

    def test_no_such_program(self):
        for number in (4, 31, 32, 2 ** 32 - 1):
            self.assertEqual(after(REDEEMED, hand(SECRET, A, B, program=number, to=1)), [-2])
            self.assertEqual(after(REDEEMED, hand(SECRET, A, B, to=number)), [-2])

    def test_not_its_secret(self):
        self.assertEqual(after(REDEEMED, hand(OTHER_SECRET, A, B, to=1)), [-5])
        self.assertEqual(after(REDEEMED, hand(SECRET, A, B, program=1, to=0)), [-5])
        for place in range(16):
            wrong = list(SECRET)
            wrong[place] ^= 2
            self.assertEqual(after(REDEEMED, hand(wrong, A, B, to=1)), [-5])

    def test_5_of_program_ahead_of_2_of_to(self):
        self.assertEqual(after(REDEEMED, hand(OTHER_SECRET, A, B, to=4)), [-5])
        self.assertEqual(after(REDEEMED, hand(OTHER_SECRET, NOBODYS, A, to=2 ** 32 - 1)), [-5])

    def test_no_such_token(self):
        line = HANDED + (agree(CODE_2), renew(SECRET, R, A_2, R_2))
        for name in (NOBODYS, R, R_2, CODE, CODE_2, SECRET):
            self.assertEqual(after(line, hand(SECRET, name, B_2, to=1)), [-3])

    def test_another_programs(self):
        self.assertEqual(after(REDEEMED, hand(OTHER_SECRET, A, B, program=1, to=1)), [-1])
        # What was handed on is the other program's alone.
        self.assertEqual(after(HANDED, hand(SECRET, B, B_2, to=2)), [-1])
        self.assertEqual(after(HANDED, hand(THIRD_SECRET, B, B_2, program=2, to=2)), [-1])

    def test_over(self):
        line = START + (now(7), agree(CODE, scopes=7), redeem(SECRET, CODE, A, R))
        for t, answer in ((7, 0), (16, 0), (17, -62), (18, -62), (2 ** 40, -62)):
            with self.subTest(t=t):
                self.assertEqual(after(line, now(t), hand(SECRET, A, B, to=1)), [0, answer])

    def test_scopes_within_the_tokens(self):
        for scopes, answer in ((1, 0), (6, 0), (7, 0), (8, -4), (9, -4), (15, -4), (MOST_SCOPES, -4)):
            with self.subTest(scopes=scopes):
                self.assertEqual(after(REDEEMED, hand(SECRET, A, B, to=1, scopes=scopes)), [answer])
        for scopes, answer in ((1, 0), (2, 0), (3, 0), (4, -4), (7, -4), (8, -4)):
            with self.subTest(scopes=scopes):
                call = hand(OTHER_SECRET, B, B_2, program=1, to=2, scopes=scopes)
                self.assertEqual(after(HANDED, call), [answer])

    def test_scopes_within_the_tokens_not_only_the_grants(self):
        line = REDEEMED + (renew(SECRET, R, A_2, R_2, scopes=1),)
        self.assertEqual(after(line, hand(SECRET, A_2, B, to=1, scopes=2)), [-4])
        self.assertEqual(after(line, hand(SECRET, A, B, to=1, scopes=2)), [0])

    def test_scopes_within_what_to_may_be_given(self):
        for scopes, answer in ((1, 0), (2, -4), (3, -4), (7, -4), (8, -4)):
            with self.subTest(scopes=scopes):
                self.assertEqual(after(REDEEMED, hand(SECRET, A, B, to=3, scopes=scopes)), [answer])

    def test_to_may_be_given_nothing(self):
        line = REDEEMED + (program(SECRET, 0),)
        self.assertEqual(after(line, hand(SECRET, A, B, to=4)), [-4])

    def test_what_program_may_be_given_is_no_matter(self):
        # Program 3 may be given 1 alone, and hands on what it has.
        line = REDEEMED + (hand(SECRET, A, B, to=3),)
        self.assertEqual(after(line, hand(NARROW_SECRET, B, B_2, program=3, to=1), check(B_2)), [0, (1, 5, 1, 1)])

    def test_alike(self):
        line = HANDED + (agree(CODE_2), renew(SECRET, R, A_2, R_2))
        for taken in (CODE, CODE_2, A, R, A_2, R_2, B):
            self.assertEqual(after(line, hand(SECRET, A, taken, to=1)), [-17])
        self.assertEqual(after(line, now(9), hand(SECRET, A, B, to=1)), [0, -17])

    def test_alike_to_what_is_over(self):
        line = START + (agree(CODE), now(95), agree(CODE_2), redeem(SECRET, CODE_2, A, R), now(104))
        self.assertEqual(after(line, redeem(SECRET, CODE, B, B_2), hand(SECRET, A, CODE, to=1)), [-62, -17])
        line = REDEEMED + (now(45), renew(SECRET, R, A_2, R_2), now(54))
        self.assertEqual(after(line, hand(SECRET, A_2, A), hand(SECRET, A_2, R)), [-17, -17])

    def test_not_alike_to_a_secret_or_a_withdrawn_code(self):
        self.assertEqual(after(REDEEMED, hand(SECRET, A, SECRET, to=1)), [0])
        line = REDEEMED + (agree(CODE_2, person=6), withdraw(6, 0))
        self.assertEqual(after(line, hand(SECRET, A, CODE_2, to=1)), [0])

    def test_128_grants(self):
        self.assertEqual(after(with_grants(127), hand(SECRET, A, B, to=1)), [0])
        self.assertEqual(after(with_grants(128), hand(SECRET, A, B, to=1)), [-28])

    def test_dead_grants_still_count(self):
        line = with_grants(128) + (withdraw(5, 1),)
        self.assertEqual(after(line, hand(SECRET, A, B, to=1)), [-28])

    def test_512_tokens(self):
        for count, answer in ((510, 0), (511, 0), (512, -28)):
            with self.subTest(count=count):
                self.assertEqual(after(with_tokens(count)[0], hand(SECRET, A, B, to=1)), [answer])


class Ends(unittest.TestCase):
    def test_handed_at_once_b_is_over_when_its_life_has_gone_by(self):
        for t, answer in ((9, (1, 5, 1, 3)), (10, -62)):
            self.assertEqual(after(HANDED, now(t), check(B)), [0, answer])

    def test_b_is_over_when_a_is(self):
        for handed_at in (0, 1, 5, 9):
            line = REDEEMED + (now(handed_at), hand(SECRET, A, B, to=1))
            for t, answer in ((9, (1, 5, 1, 1)), (10, -62), (11, -62)):
                with self.subTest(handed_at=handed_at, t=t):
                    self.assertEqual(after(line, now(t), check(B)), [0, answer])

    def test_down_a_chain(self):
        line = REDEEMED + (now(5), renew(SECRET, R, A_2, R_2), hand(SECRET, A_2, B, to=1), now(9))
        line = line + (hand(SECRET, A, B_2, to=1), hand(OTHER_SECRET, B, B_3, program=1, to=2))
        self.assertEqual(after(line, now(10), check(B), check(B_2), check(B_3)), [0, (1, 5, 1, 1), -62, (1, 5, 2, 1)])
        self.assertEqual(after(line, now(14), check(B), check(B_3)), [0, (1, 5, 1, 1), (1, 5, 2, 1)])
        self.assertEqual(after(line, now(15), check(B), check(B_3)), [0, -62, -62])

    def test_its_end_does_not_move_with_renewals(self):
        line = HANDED + (now(5), renew(SECRET, R, A_2, R_2, scopes=7))
        self.assertEqual(after(line, now(9), check(B)), [0, (1, 5, 1, 3)])
        self.assertEqual(after(line, now(10), check(B), check(A_2)), [0, -62, (1, 5, 0, 7)])


class NoLongerGood(unittest.TestCase):
    def test_dead_itself(self):
        ends = (withdraw(5, 0), revoke(SECRET, A), revoke(SECRET, R), redeem(SECRET, CODE, A_2, R_2))
        for end in ends:
            with self.subTest(end=end):
                calls = (end, hand(SECRET, A, B, to=1), agree(B))
                self.assertEqual(after(REDEEMED, *calls)[1:], [-13, 0])

    def test_dead_by_one_that_it_came_of(self):
        ends = (withdraw(5, 0), revoke(SECRET, A), revoke(SECRET, R), redeem(SECRET, CODE, A_2, R_2))
        line = HANDED + (hand(OTHER_SECRET, B, B_2, program=1, to=2),)
        for end in ends + (withdraw(5, 1), revoke(OTHER_SECRET, B, program=1)):
            with self.subTest(end=end):
                by_b = hand(OTHER_SECRET, B, B_3, program=1, to=2)
                by_b_2 = hand(THIRD_SECRET, B_2, B_3, program=2, to=2)
                self.assertEqual(after(line, end, by_b, by_b_2, agree(B_3))[1:], [-13, -13, 0])

    def test_what_came_of_it_may_be_dead(self):
        line = HANDED + (revoke(OTHER_SECRET, B, program=1),)
        self.assertEqual(after(line, check(B), hand(SECRET, A, B_2, to=1), check(B_2)), [-13, 0, (1, 5, 1, 1)])


class TooFar(unittest.TestCase):
    def test_the_eighth_may_not_hand_on(self):
        for length in range(1, 9):
            with self.subTest(length=length):
                line = with_chain(length)
                self.assertEqual(after(line, check(chain_name(length))), [(1, 5, 0, 7)])
                call = hand(SECRET, chain_name(length), B, to=1)
                self.assertEqual(after(line, call, check(B)), [0, (1, 5, 1, 1)] if length < 8 else [-6, -3])

    def test_the_seventh_still_may(self):
        call = hand(SECRET, chain_name(7), B, to=1, scopes=7)
        self.assertEqual(after(with_chain(8), call, check(B)), [0, (1, 5, 1, 7)])
        self.assertEqual(after(with_chain(8), call, hand(OTHER_SECRET, B, B_2, program=1, to=1)), [0, -6])

    def test_breadth_is_no_matter(self):
        line = with_grants(20)
        calls = (hand(OTHER_SECRET, bytes_16(20018), B, program=1, to=1), check(B))
        self.assertEqual(after(line, *calls), [0, (1, 5, 1, 1)])

    def test_the_last_of_a_chain_dies_with_the_first(self):
        for length in (2, 5, 8):
            for end in (withdraw(5, 0), revoke(SECRET, A)):
                calls = (end, check(chain_name(length)))
                self.assertEqual(after(with_chain(length), *calls)[1:], [-13])


class FirstNamed(unittest.TestCase):
    """Each call would be refused for its own reason and for every later one that can go with it."""

    def test_in_order(self):
        eighth = chain_name(8)
        full = with_chain(8) + tuple(hand(SECRET, A, bytes_16(500 + k), to=1) for k in range(120))
        cases = (
            (hand(OTHER_SECRET, NOBODYS, A, program=4, to=4, scopes=0), -22),
            (hand(SECRET, eighth, A, to=0, scopes=0), -22),
            (hand(OTHER_SECRET, NOBODYS, A, program=4, to=4, scopes=8), -2),
            (hand(OTHER_SECRET, NOBODYS, A, program=0, to=4, scopes=8), -5),
            (hand(SECRET, NOBODYS, A, to=4, scopes=8), -2),
            (hand(SECRET, eighth, A, to=4, scopes=8), -2),
            (hand(SECRET, R, A, to=4, scopes=8), -2),
            (hand(OTHER_SECRET, eighth, A, program=1, to=4, scopes=8), -2),
            (hand(SECRET, NOBODYS, A, to=3, scopes=8), -3),
            (hand(SECRET, R, A, to=3, scopes=8), -3),
            (hand(OTHER_SECRET, eighth, A, program=1, to=3, scopes=8), -1),
            (hand(SECRET, eighth, A, to=0, scopes=8), -4),
            (hand(SECRET, eighth, A, to=3, scopes=2), -4),
            (hand(SECRET, eighth, A, to=0, scopes=1), -6),
            (hand(SECRET, eighth, B, to=0, scopes=1), -6),
            (hand(SECRET, A, A, to=0, scopes=1), -17),
            (hand(SECRET, A, B, to=0, scopes=1), -28),
        )
        for call, answer in cases:
            with self.subTest(answer=answer):
                self.assertEqual(after(full, call), [answer])
        over = hand(SECRET, eighth, A, to=3, scopes=8)
        self.assertEqual(after(full, now(10), over), [0, -62])
        self.assertEqual(after(full, now(10), revoke(SECRET, A), over), [0, 0, -13])
        self.assertEqual(after(full, revoke(SECRET, A), over), [0, -13])
        others = hand(OTHER_SECRET, eighth, A, program=1, to=3, scopes=8)
        self.assertEqual(after(full, now(10), revoke(SECRET, A), others), [0, 0, -1])
        gone = hand(SECRET, eighth, A, to=4, scopes=8)
        self.assertEqual(after(full, now(10), revoke(SECRET, A), gone), [0, 0, -2])

    def test_with_512_tokens(self):
        line, r = with_tokens(512)
        self.assertEqual(after(line, hand(SECRET, A, A, to=1)), [-17])
        self.assertEqual(after(line, hand(SECRET, A, B, to=1, scopes=8)), [-4])
        self.assertEqual(after(line, hand(SECRET, A, B, to=1)), [-28])


class Kept(unittest.TestCase):
    """What no line of calls brings about: a token for use that lives longer from now than tokens do."""

    def test_the_sooner_of_both_ends(self):
        for ends, told in ((26, 26), (29, 29), (30, 30), (31, 30), (2 ** 24, 30)):
            with self.subTest(ends=ends):
                book = Book()
                begin_in(book, 100, 10, 50)
                add_program(book, 31, tuple(SECRET))
                add_program(book, 31, tuple(OTHER_SECRET))
                book.time = 20
                book.grants.append(Grant(5, 0, 7, None))
                book.tokens[tuple(A)] = Token(True, 0, 7, ends)
                self.assertEqual(hand_in(book, 0, tuple(SECRET), tuple(A), 1, 3, tuple(B)), 0)
                handed = book.tokens[tuple(B)]
                self.assertEqual((handed.for_use, handed.grant, handed.scopes, handed.ends), (True, 1, 3, told))
                grant = book.grants[1]
                self.assertEqual((grant.person, grant.program, grant.scopes), (5, 1, 3))
                self.assertEqual((grant.handed_from, grant.dead), (0, False))


class ChangesNothing(unittest.TestCase):
    def test_refused(self):
        line = HANDED + (agree(CODE_2, scopes=7),)
        refused = (
            hand(SECRET, A, B_2, to=1, scopes=0), hand(SECRET, A, B_2, to=4), hand(SECRET, A, B_2, program=4),
            hand(OTHER_SECRET, A, B_2, to=1), hand(SECRET, NOBODYS, B_2, to=1), hand(SECRET, R, B_2, to=1),
            hand(OTHER_SECRET, A, B_2, program=1, to=1), hand(SECRET, A, B_2, to=1, scopes=8),
            hand(SECRET, A, B_2, to=3, scopes=2), hand(SECRET, A, B, to=2, scopes=1), hand(SECRET, A, CODE_2, to=1),
        )
        later = (
            check(A), check(B), check(B_2), redeem(SECRET, CODE_2, A_2, R_2), check(A_2), agree(B_2), withdraw(5, 1),
            check(B), check(A), renew(SECRET, R, B_3, R_3), withdraw(5, 0), withdraw(5, 2),
        )
        expected = after(line, *later)
        for call in refused:
            with self.subTest(call=call[:4]):
                answers = after(line, call, *later)
                self.assertLess(answers[0], 0)
                self.assertEqual(answers[1:], expected)


if __name__ == "__main__":
    unittest.main()
