"""Point 6: check."""

import unittest

from tests.lines import MOST_SCOPES, agree, begin, check, hand, now, program, redeem, renew, revoke, withdraw
from tests.stage import (
    A, A_2, B, B_2, CODE, CODE_2, NOBODYS, OTHER_SECRET, R, R_2, REDEEMED, SECRET, START, after, chain_name,
    with_chain, with_grants,
)


class Check(unittest.TestCase):
    def test_1_and_three_whole_numbers(self):
        self.assertEqual(after(REDEEMED, check(A, 7)), [(1, 5, 0, 7)])

    def test_persons_and_programs(self):
        for person in (0, 1, 63):
            for number, secret in ((0, SECRET), (1, OTHER_SECRET)):
                line = START + (agree(CODE, person=person, program=number, scopes=24),)
                line = line + (redeem(secret, CODE, A, R, program=number),)
                self.assertEqual(after(line, check(A, 8)), [(1, person, number, 24)])

    def test_scopes_at_their_edges(self):
        line = (begin(), program(SECRET), agree(CODE, scopes=MOST_SCOPES), redeem(SECRET, CODE, A, R))
        for scopes in (0, 1, 2 ** 31, MOST_SCOPES):
            self.assertEqual(after(line, check(A, scopes)), [(1, 0, 0, MOST_SCOPES)])

    def test_scopes_0_asked_for(self):
        self.assertEqual(after(REDEEMED, check(A, 0)), [(1, 5, 0, 7)])

    def test_scopes_within_its_own(self):
        for scopes, good in ((1, True), (6, True), (7, True), (8, False), (9, False), (MOST_SCOPES, False)):
            with self.subTest(scopes=scopes):
                self.assertEqual(after(REDEEMED, check(A, scopes)), [(1, 5, 0, 7) if good else -4])

    def test_it_does_not_wear_off(self):
        self.assertEqual(after(REDEEMED, *[check(A, 7)] * 20), [(1, 5, 0, 7)] * 20)

    def test_no_such_token(self):
        line = REDEEMED + (agree(CODE_2), renew(SECRET, R, A_2, R_2))
        for name in (NOBODYS, R, R_2, CODE, CODE_2, SECRET):
            for scopes in (0, 1, 8):
                self.assertEqual(after(line, check(name, scopes)), [-3])

    def test_one_byte_apart_is_no_such_token(self):
        for place in range(16):
            other = list(A)
            other[place] ^= 128
            self.assertEqual(after(REDEEMED, check(other)), [-3])

    def test_over(self):
        line = START + (now(7), agree(CODE, person=5, scopes=7), redeem(SECRET, CODE, A, R))
        good = (1, 5, 0, 7)
        for t, answer in ((7, good), (16, good), (17, -62), (18, -62), (2 ** 40, -62)):
            with self.subTest(t=t):
                self.assertEqual(after(line, now(t), check(A, 7)), [0, answer])

    def test_life_1(self):
        line = (begin(1, 1, 1), program(SECRET), agree(CODE), redeem(SECRET, CODE, A, R))
        self.assertEqual(after(line, check(A), now(1), check(A)), [(1, 0, 0, 1), 0, -62])

    def test_the_longest_life(self):
        line = (begin(1, 2 ** 24, 1), program(SECRET), agree(CODE), redeem(SECRET, CODE, A, R))
        self.assertEqual(after(line, now(2 ** 24 - 1), check(A)), [0, (1, 0, 0, 1)])
        self.assertEqual(after(line, now(2 ** 24), check(A)), [0, -62])
        line = (begin(1, 2 ** 24, 1), program(SECRET), now(2 ** 40), agree(CODE), redeem(SECRET, CODE, A, R))
        self.assertEqual(after(line, check(A)), [(1, 0, 0, 1)])

    def test_each_life_is_its_own(self):
        line = (begin(3, 5, 9), program(SECRET), now(2), agree(CODE), redeem(SECRET, CODE, A, R))
        self.assertEqual(after(line, now(6), check(A)), [0, (1, 0, 0, 1)])
        self.assertEqual(after(line, now(7), check(A)), [0, -62])
        self.assertEqual(after(line, now(10), renew(SECRET, R, A_2, R_2)), [0, 0])
        self.assertEqual(after(line, now(11), renew(SECRET, R, A_2, R_2)), [0, -62])

    def test_after_renew_with_fewer_scopes(self):
        line = REDEEMED + (renew(SECRET, R, A_2, R_2, scopes=2),)
        calls = (check(A_2), check(A_2, 2), check(A_2, 3), check(A_2, 4), check(A, 7))
        self.assertEqual(after(line, *calls), [(1, 5, 0, 2), (1, 5, 0, 2), -4, -4, (1, 5, 0, 7)])

    def test_after_hand(self):
        line = REDEEMED + (hand(SECRET, A, B, to=1, scopes=6),)
        calls = (check(B), check(B, 6), check(B, 1), check(B, 7), check(A, 7))
        self.assertEqual(after(line, *calls), [(1, 5, 1, 6), (1, 5, 1, 6), -4, -4, (1, 5, 0, 7)])

    def test_many_tokens_side_by_side(self):
        line = with_grants(100)
        self.assertEqual(after(line, check(A)), [(1, 5, 0, 7)])
        line = with_chain(8)
        self.assertEqual(after(line, *[check(chain_name(k), 7) for k in range(1, 9)]), [(1, 5, 0, 7)] * 8)

    def test_not_alive(self):
        line = REDEEMED + (hand(SECRET, A, B, to=1), hand(OTHER_SECRET, B, B_2, program=1, to=2))
        good = [(1, 5, 0, 7), (1, 5, 1, 1), (1, 5, 2, 1)]
        cases = (
            (withdraw(5, 0), [-13, -13, -13]), (withdraw(5, 1), good[:1] + [-13, -13]),
            (withdraw(5, 2), good[:2] + [-13]),
            (revoke(SECRET, A), [-13, -13, -13]), (revoke(OTHER_SECRET, B, program=1), good[:1] + [-13, -13]),
            (redeem(SECRET, CODE, A_2, R_2), [-13, -13, -13]), (withdraw(5, 3), good), (withdraw(4, 0), good),
        )
        for end, answers in cases:
            with self.subTest(end=end):
                self.assertEqual(after(line, end, check(A), check(B), check(B_2))[1:], answers)

    def test_the_first_named_is_answered(self):
        self.assertEqual(after(REDEEMED, now(10), check(A, 8)), [0, -62])
        self.assertEqual(after(REDEEMED, withdraw(5, 0), check(A, 8)), [1, -13])
        self.assertEqual(after(REDEEMED, withdraw(5, 0), now(10), check(A, 8)), [1, 0, -13])
        self.assertEqual(after(REDEEMED, withdraw(5, 0), now(10), check(R, 8)), [1, 0, -3])

    def test_it_changes_nothing(self):
        line = REDEEMED + (agree(CODE_2), hand(SECRET, A, B, to=1))
        later = (
            agree(NOBODYS), check(A, 7), hand(SECRET, A, B_2), redeem(SECRET, CODE_2, A_2, R_2), check(A_2),
            withdraw(5, 0), withdraw(5, 1), withdraw(0, 0),
        )
        expected = after(line, *later)
        for call in (check(A), check(A, 8), check(NOBODYS), check(R), check(CODE_2), check(B, 2), check(B, 1)):
            self.assertEqual(after(line, call, *later)[1:], expected)
        for end in (withdraw(5, 0), revoke(SECRET, A), now(10)):
            self.assertEqual(after(line, end, check(A), check(B), *later)[3:], after(line, end, *later)[1:])


if __name__ == "__main__":
    unittest.main()
