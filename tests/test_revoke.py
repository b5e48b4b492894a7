"""Point 7: revoke."""

import unittest

from tests.lines import agree, check, hand, now, redeem, renew, revoke, withdraw
from tests.stage import (
    A, A_2, A_3, B, B_2, CODE, CODE_2, NOBODYS, OTHER_SECRET, R, R_2, R_3, REDEEMED, SECRET, after, chain_name,
    with_chain,
)

RENEWED = REDEEMED + (renew(SECRET, R, A_2, R_2),)
HANDED = REDEEMED + (hand(SECRET, A, B, to=1),)


class Revoke(unittest.TestCase):
    def test_by_any_of_its_tokens(self):
        for name in (A, A_2, R, R_2):
            with self.subTest(name=name):
                calls = (revoke(SECRET, name), check(A), check(A_2), renew(SECRET, R_2, A_3, R_3))
                self.assertEqual(after(RENEWED, *calls), [0, -13, -13, -13])

    def test_called_again(self):
        for name in (A, R):
            calls = (revoke(SECRET, name), revoke(SECRET, name), revoke(SECRET, A), check(A))
            self.assertEqual(after(REDEEMED, *calls), [0, 0, 0, -13])

    def test_by_a_token_that_is_over(self):
        line = REDEEMED + (now(49), renew(SECRET, R, A_2, R_2), now(55))
        self.assertEqual(after(line, check(A), check(A_2)), [-62, (1, 5, 0, 1)])
        for name in (A, R):
            self.assertEqual(after(line, revoke(SECRET, name), check(A_2)), [0, -13])

    def test_by_a_token_that_is_used(self):
        self.assertEqual(after(RENEWED, revoke(SECRET, R), check(A_2)), [0, -13])

    def test_by_a_token_of_a_grant_not_alive(self):
        line = HANDED + (withdraw(5, 0),)
        self.assertEqual(after(line, revoke(OTHER_SECRET, B, program=1), withdraw(5, 1)), [0, 0])
        self.assertEqual(after(line, revoke(SECRET, A)), [0])

    def test_its_grant_and_what_came_of_it(self):
        line = HANDED + (hand(OTHER_SECRET, B, B_2, program=1, to=2),)
        checks = (check(A), check(B), check(B_2))
        self.assertEqual(after(line, revoke(SECRET, A), *checks), [0, -13, -13, -13])
        self.assertEqual(after(line, revoke(OTHER_SECRET, B, program=1), *checks), [0, (1, 5, 0, 7), -13, -13])

    def test_its_grant_alone_is_dead(self):
        line = HANDED + (revoke(SECRET, A),)
        self.assertEqual(after(line, withdraw(5, 0), withdraw(5, 1)), [0, 1])

    def test_in_the_midst_of_a_chain(self):
        calls = (revoke(SECRET, chain_name(4)), check(chain_name(3)), check(chain_name(4)), check(chain_name(8)))
        self.assertEqual(after(with_chain(8), *calls), [0, (1, 5, 0, 7), -13, -13])

    def test_other_grants_are_as_they_were(self):
        line = REDEEMED + (agree(CODE_2, person=5), redeem(SECRET, CODE_2, A_2, R_2), hand(SECRET, A_2, B, to=1))
        calls = (revoke(SECRET, A), check(A_2), check(B), renew(SECRET, R_2, A_3, R_3), withdraw(5, 0))
        self.assertEqual(after(line, *calls), [0, (1, 5, 0, 1), (1, 5, 1, 1), 0, 1])

    def test_codes_are_as_they_were(self):
        line = REDEEMED + (agree(CODE_2, person=5), revoke(SECRET, A))
        self.assertEqual(after(line, redeem(SECRET, CODE_2, A_2, R_2), check(A_2)), [0, (1, 5, 0, 1)])
        self.assertEqual(after(line, redeem(SECRET, CODE, A_2, R_2)), [-13])

    def test_its_names_stay_taken(self):
        line = REDEEMED + (revoke(SECRET, A),)
        self.assertEqual(after(line, agree(A), agree(R), agree(CODE)), [-17, -17, -17])


class Refused(unittest.TestCase):
    def test_no_such_program(self):
        for number in (4, 31, 32, 2 ** 32 - 1):
            self.assertEqual(after(REDEEMED, revoke(SECRET, A, program=number)), [-2])

    def test_not_its_secret(self):
        self.assertEqual(after(REDEEMED, revoke(OTHER_SECRET, A)), [-5])
        self.assertEqual(after(REDEEMED, revoke(SECRET, A, program=1)), [-5])
        for place in range(16):
            wrong = list(SECRET)
            wrong[place] ^= 16
            self.assertEqual(after(REDEEMED, revoke(wrong, A)), [-5])

    def test_no_such_token(self):
        line = REDEEMED + (agree(CODE_2),)
        for name in (NOBODYS, CODE, CODE_2, SECRET):
            self.assertEqual(after(line, revoke(SECRET, name)), [-3])

    def test_another_programs(self):
        for name in (A, R):
            self.assertEqual(after(REDEEMED, revoke(OTHER_SECRET, name, program=1)), [-1])
        # Who hands on can't revoke what was handed on, and the other way round.
        self.assertEqual(after(HANDED, revoke(SECRET, B)), [-1])
        self.assertEqual(after(HANDED, revoke(OTHER_SECRET, A, program=1)), [-1])
        dead = HANDED + (revoke(SECRET, A),)
        self.assertEqual(after(dead, revoke(OTHER_SECRET, A, program=1)), [-1])

    def test_the_first_named_is_answered(self):
        self.assertEqual(after(REDEEMED, revoke(OTHER_SECRET, NOBODYS, program=4)), [-2])
        self.assertEqual(after(REDEEMED, revoke(OTHER_SECRET, NOBODYS)), [-5])
        self.assertEqual(after(REDEEMED, revoke(SECRET, A, program=1)), [-5])
        self.assertEqual(after(REDEEMED, revoke(OTHER_SECRET, NOBODYS, program=1)), [-3])

    def test_changes_nothing(self):
        later = (check(A), check(B), renew(SECRET, R, A_2, R_2), check(A_2), withdraw(5, 0), withdraw(5, 1))
        expected = after(HANDED, *later)
        self.assertEqual(expected, [(1, 5, 0, 7), (1, 5, 1, 1), 0, (1, 5, 0, 1), 1, 1])
        refused = (
            revoke(SECRET, A, program=4), revoke(OTHER_SECRET, A), revoke(SECRET, NOBODYS), revoke(SECRET, CODE),
            revoke(OTHER_SECRET, A, program=1), revoke(OTHER_SECRET, R, program=1), revoke(SECRET, B),
        )
        for call in refused:
            answers = after(HANDED, call, *later)
            self.assertLess(answers[0], 0)
            self.assertEqual(answers[1:], expected)


if __name__ == "__main__":
    unittest.main()
