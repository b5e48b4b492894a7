"""Point 7: withdraw."""

import unittest

from tests.lines import agree, begin, bytes_16, check, hand, now, program, redeem, renew, revoke, withdraw
from tests.stage import (
    A, A_2, A_3, B, B_2, B_3, CODE, CODE_2, NOBODYS, OTHER_SECRET, R, R_2, R_3, REDEEMED, SECRET, START, THIRD_SECRET,
    after, chain_name, with_chain, with_grants,
)

# Person 5 to program 0 twice, person 6 to program 0, person 5 to program 1.
SEVERAL = REDEEMED + (
    agree(bytes_16(101), person=5, scopes=3), redeem(SECRET, bytes_16(101), bytes_16(201), bytes_16(301)),
    agree(bytes_16(102), person=6, scopes=3), redeem(SECRET, bytes_16(102), bytes_16(202), bytes_16(302)),
    agree(bytes_16(103), person=5, program=1, scopes=3),
    redeem(OTHER_SECRET, bytes_16(103), bytes_16(203), bytes_16(303), program=1),
)
CHECKS = (check(A), check(bytes_16(201)), check(bytes_16(202)), check(bytes_16(203)))
GOOD = [(1, 5, 0, 7), (1, 5, 0, 3), (1, 6, 0, 3), (1, 5, 1, 3)]


class Counted(unittest.TestCase):
    def test_none(self):
        self.assertEqual(after(START, withdraw(5, 0), withdraw(0, 3), withdraw(63, 1)), [0, 0, 0])
        self.assertEqual(after(SEVERAL, withdraw(6, 1), withdraw(0, 0), withdraw(5, 2)), [0, 0, 0])

    def test_some(self):
        self.assertEqual(after(SEVERAL, withdraw(5, 0)), [2])
        self.assertEqual(after(SEVERAL, withdraw(6, 0)), [1])
        self.assertEqual(after(SEVERAL, withdraw(5, 1)), [1])

    def test_called_twice(self):
        self.assertEqual(after(SEVERAL, withdraw(5, 0), withdraw(5, 0), withdraw(5, 0)), [2, 0, 0])

    def test_again_after_a_new_leave(self):
        line = REDEEMED + (withdraw(5, 0), agree(CODE_2, person=5), redeem(SECRET, CODE_2, A_2, R_2))
        self.assertEqual(after(line, check(A), check(A_2)), [-13, (1, 5, 0, 1)])
        self.assertEqual(after(line, withdraw(5, 0), check(A_2)), [1, -13])

    def test_dead_ones_do_not_count(self):
        self.assertEqual(after(SEVERAL, revoke(SECRET, A), withdraw(5, 0)), [0, 1])
        self.assertEqual(after(SEVERAL, redeem(SECRET, CODE, A_2, R_2), withdraw(5, 0)), [-13, 1])
        used = (renew(SECRET, R, A_2, R_2), renew(SECRET, R, A_3, R_3))
        self.assertEqual(after(SEVERAL, *used, withdraw(5, 0)), [0, -13, 1])

    def test_not_alive_but_not_dead_ones_count(self):
        line = REDEEMED + (hand(SECRET, A, B, to=1), withdraw(5, 0))
        self.assertEqual(after(line, check(B), withdraw(5, 1), withdraw(5, 1)), [-13, 1, 0])

    def test_tokens_over_are_no_matter(self):
        self.assertEqual(after(SEVERAL, now(2 ** 40), withdraw(5, 0)), [0, 2])

    def test_handed_on_ones_count(self):
        line = SEVERAL + (hand(SECRET, A, B, to=1), hand(SECRET, bytes_16(202), B_2, to=1))
        line = line + (hand(OTHER_SECRET, B, B_3, program=1, to=1),)
        self.assertEqual(after(line, withdraw(5, 1)), [3])
        self.assertEqual(after(line, withdraw(6, 1)), [1])
        self.assertEqual(after(line, withdraw(5, 0), withdraw(5, 1)), [2, 3])

    def test_handed_to_itself_count(self):
        self.assertEqual(after(with_chain(8), withdraw(5, 0), withdraw(5, 0)), [8, 0])

    def test_127_of_128(self):
        self.assertEqual(after(with_grants(128), withdraw(5, 1), withdraw(5, 0)), [127, 1])

    def test_codes_do_not_count(self):
        line = SEVERAL + (agree(CODE_2, person=5),)
        self.assertEqual(after(line, withdraw(5, 0)), [2])

    def test_persons_and_programs_at_their_edges(self):
        line = (begin(),) + tuple(program(bytes_16(700 + k)) for k in range(32))
        line = line + (agree(CODE, person=63, program=31), redeem(bytes_16(731), CODE, A, R, program=31))
        self.assertEqual(after(line, withdraw(63, 31), check(A)), [1, -13])


class Refused(unittest.TestCase):
    def test_persons(self):
        for person, answer in ((0, 0), (63, 0), (64, -22), (2 ** 32 - 1, -22)):
            self.assertEqual(after(START, withdraw(person, 0)), [answer])

    def test_no_such_program(self):
        for number in (4, 31, 32, 2 ** 32 - 1):
            self.assertEqual(after(START, withdraw(5, number)), [-2])

    def test_22_ahead_of_2(self):
        self.assertEqual(after(START, withdraw(64, 4)), [-22])

    def test_changes_nothing(self):
        line = SEVERAL + (agree(CODE_2, person=5, scopes=3),)
        later = CHECKS + (agree(CODE_2, person=6), redeem(SECRET, CODE_2, A_2, R_2), withdraw(5, 0), withdraw(6, 0))
        expected = after(line, *later)
        self.assertEqual(expected, GOOD + [-17, 0, 3, 1])
        for call in (withdraw(64, 0), withdraw(5, 4), withdraw(69, 0), withdraw(2 ** 32 - 1, 2 ** 32 - 1)):
            answers = after(line, call, *later)
            self.assertLess(answers[0], 0)
            self.assertEqual(answers[1:], expected)


class Ended(unittest.TestCase):
    def test_these_grants_alone(self):
        cases = (
            (withdraw(5, 0), [-13, -13] + GOOD[2:]), (withdraw(6, 0), GOOD[:2] + [-13] + GOOD[3:]),
            (withdraw(5, 1), GOOD[:3] + [-13]), (withdraw(6, 1), GOOD), (withdraw(0, 0), GOOD), (withdraw(5, 2), GOOD),
        )
        for call, answers in cases:
            with self.subTest(call=call):
                self.assertEqual(after(SEVERAL, call, *CHECKS)[1:], answers)

    def test_all_their_tokens(self):
        line = REDEEMED + (renew(SECRET, R, A_2, R_2), withdraw(5, 0))
        self.assertEqual(after(line, check(A), check(A_2), renew(SECRET, R_2, A_3, R_3)), [-13, -13, -13])
        self.assertEqual(after(line, hand(SECRET, A, B, to=1)), [-13])

    def test_what_came_of_them(self):
        line = REDEEMED + (hand(SECRET, A, B, to=1), hand(OTHER_SECRET, B, B_2, program=1, to=2))
        line = line + (hand(THIRD_SECRET, B_2, B_3, program=2, to=0),)
        self.assertEqual(after(line, withdraw(5, 2), check(A), check(B), check(B_2), check(B_3)),
                         [1, (1, 5, 0, 7), (1, 5, 1, 1), -13, -13])
        self.assertEqual(after(line, withdraw(5, 0), check(A), check(B), check(B_2), check(B_3)), [2] + [-13] * 4)
        self.assertEqual(after(line, withdraw(5, 1), withdraw(5, 0), withdraw(5, 2)), [1, 2, 1])

    def test_of_another_person_nothing(self):
        line = SEVERAL + (hand(SECRET, bytes_16(202), B, to=1),)
        calls = (withdraw(5, 0), withdraw(5, 1), check(bytes_16(202)), check(B))
        self.assertEqual(after(line, *calls), [2, 1, (1, 6, 0, 3), (1, 6, 1, 1)])

    def test_it_is_told_with_13_ahead_of_62(self):
        self.assertEqual(after(REDEEMED, withdraw(5, 0), now(100), check(A)), [1, 0, -13])

    def test_a_whole_chain(self):
        line = with_chain(8)
        checks = [check(chain_name(k)) for k in range(1, 9)]
        self.assertEqual(after(line, withdraw(5, 0), *checks), [8] + [-13] * 8)


class Codes(unittest.TestCase):
    def test_not_yet_redeemed(self):
        line = START + (agree(CODE, person=5, scopes=7), withdraw(5, 0))
        self.assertEqual(after(line, redeem(SECRET, CODE, A, R)), [-3])

    def test_its_bytes_may_be_used_again(self):
        line = REDEEMED + (agree(CODE_2, person=5), withdraw(5, 0))
        self.assertEqual(after(line, agree(CODE_2, person=6), redeem(SECRET, CODE_2, A_2, R_2)), [0, 0])
        line = SEVERAL + (agree(CODE_2, person=5), withdraw(5, 0))
        self.assertEqual(after(line, hand(OTHER_SECRET, bytes_16(203), CODE_2, program=1, to=1)), [0])
        self.assertEqual(after(line, renew(SECRET, bytes_16(302), CODE_2, R_2)), [0])
        self.assertEqual(after(line, renew(SECRET, bytes_16(302), A_2, CODE_2)), [0])
        line = line + (agree(NOBODYS, person=6),)
        self.assertEqual(after(line, redeem(SECRET, NOBODYS, CODE_2, R_2)), [0])

    def test_a_new_code_of_these_bytes_is_its_own(self):
        line = START + (agree(CODE, person=5, scopes=7, v=[1]), withdraw(5, 0), now(60))
        line = line + (agree(CODE, person=6, program=1, scopes=2, v=[2]), now(159))
        calls = (redeem(OTHER_SECRET, CODE, A, R, program=1, v=[2]), check(A))
        self.assertEqual(after(line, *calls), [0, (1, 6, 1, 2)])

    def test_it_no_longer_counts_among_the_128(self):
        line = START + tuple(agree(bytes_16(1000 + k), person=k % 2) for k in range(128))
        self.assertEqual(after(line, agree(CODE)), [-28])
        again = [agree(bytes_16(2000 + k)) for k in range(65)]
        self.assertEqual(after(line, withdraw(0, 0), *again), [0] + [0] * 64 + [-28])

    def test_over_ones_go_too(self):
        line = START + (agree(CODE, person=5), now(100), withdraw(5, 0))
        self.assertEqual(after(line, redeem(SECRET, CODE, A, R), agree(CODE)), [-3, 0])

    def test_a_redeemed_one_stays(self):
        line = REDEEMED + (withdraw(5, 0),)
        self.assertEqual(after(line, redeem(SECRET, CODE, A_2, R_2), agree(CODE)), [-13, -17])

    def test_redeemed_ones_still_count_among_the_128(self):
        line = REDEEMED + tuple(agree(bytes_16(1000 + k), person=6) for k in range(127))
        self.assertEqual(after(line, withdraw(5, 0), agree(CODE_2)), [1, -28])

    def test_of_another_person_or_program_stay(self):
        line = START + (agree(CODE, person=5), agree(CODE_2, person=5, program=1))
        self.assertEqual(after(line, withdraw(6, 0), redeem(SECRET, CODE, A, R)), [0, 0])
        self.assertEqual(after(line, withdraw(5, 1), redeem(SECRET, CODE, A, R)), [0, 0])
        self.assertEqual(after(line, withdraw(5, 0), redeem(OTHER_SECRET, CODE_2, A, R, program=1)), [0, 0])
        self.assertEqual(after(line, withdraw(5, 0), agree(CODE_2)), [0, -17])

    def test_several_at_once(self):
        line = START + (agree(CODE, person=5), agree(CODE_2, person=5))
        calls = (withdraw(5, 0), redeem(SECRET, CODE, A, R), redeem(SECRET, CODE_2, A, R))
        self.assertEqual(after(line, *calls), [0, -3, -3])


if __name__ == "__main__":
    unittest.main()
