"""Point 1: begin, now, program."""

import unittest

from tests.lines import (
    MOST_SCOPES, agree, begin, bytes_16, check, hand, last, now, program, redeem, renew, revoke, told, withdraw,
)

SECRET = bytes_16(1)
CODE = bytes_16(2)
A = bytes_16(3)
R = bytes_16(4)


class Begin(unittest.TestCase):
    def test_each_number_at_its_edges(self):
        for value, answer in ((0, -22), (1, 0), (16777216, 0), (16777217, -22), (2 ** 32 - 1, -22)):
            for name in ("code_life", "life", "renew_life"):
                with self.subTest(name=name, value=value):
                    self.assertEqual(told(begin(**{name: value})), [answer])

    def test_all_three_at_their_edges(self):
        self.assertEqual(told(begin(1, 1, 1)), [0])
        self.assertEqual(told(begin(16777216, 16777216, 16777216)), [0])
        self.assertEqual(told(begin(0, 0, 0)), [-22])
        self.assertEqual(told(begin(16777217, 16777217, 16777217)), [-22])

    def test_refused_till_one_is_answered_0(self):
        line = (begin(0), begin(life=0), begin(), program(SECRET))
        self.assertEqual(told(*line), [-22, -22, 0, 0])

    def test_again_keeps_no_program(self):
        line = (begin(), program(SECRET), program(SECRET), begin())
        self.assertEqual(last(*line, agree(CODE)), -2)
        self.assertEqual(last(*line, program(SECRET)), 0)

    def test_again_keeps_no_code(self):
        line = (begin(), program(SECRET), agree(CODE), begin(), program(SECRET))
        self.assertEqual(last(*line, redeem(SECRET, CODE, A, R)), -3)
        self.assertEqual(last(*line, agree(CODE)), 0)

    def test_again_keeps_no_token(self):
        line = (begin(), program(SECRET), agree(CODE), redeem(SECRET, CODE, A, R), begin(), program(SECRET))
        self.assertEqual(told(*line, agree(A), agree(R))[-2:], [0, 0])

    def test_again_keeps_no_grant(self):
        line = (begin(), program(SECRET), agree(CODE), redeem(SECRET, CODE, A, R), begin(), program(SECRET))
        later = (check(A), hand(SECRET, A, bytes_16(5)), renew(SECRET, R, bytes_16(5), bytes_16(6)), revoke(SECRET, A))
        self.assertEqual(told(*line, *later, withdraw(0, 0))[-5:], [-3, -3, -3, -3, 0])
        later = (agree(CODE, person=9), redeem(SECRET, CODE, R, A), check(R), check(A), withdraw(0, 0), check(R))
        self.assertEqual(told(*line, *later)[-6:], [0, 0, (1, 9, 0, 1), -3, 0, (1, 9, 0, 1)])

    def test_again_makes_room_for_grants(self):
        line = (begin(), program(SECRET), agree(CODE), redeem(SECRET, CODE, A, R))
        handed = tuple(hand(SECRET, A, bytes_16(100 + k)) for k in range(128))
        self.assertEqual(told(*line, *handed, *line, *handed), ([0] * 131 + [-28]) * 2)

    def test_again_sets_the_tokens_lives(self):
        line = (begin(9, 9, 9), begin(50, 5, 7), program(SECRET), agree(CODE), redeem(SECRET, CODE, A, R))
        self.assertEqual(told(*line, now(4), check(A), now(5), check(A))[-4:], [0, (1, 0, 0, 1), 0, -62])
        later = renew(SECRET, R, bytes_16(5), bytes_16(6))
        self.assertEqual(last(*line, now(6), later), 0)
        self.assertEqual(last(*line, now(7), later), -62)

    def test_again_sets_the_time_to_0(self):
        self.assertEqual(told(begin(), now(50), begin(), now(49)), [0, 0, 0, 0])

    def test_again_sets_the_codes_life(self):
        line = (begin(code_life=5), begin(code_life=7), program(SECRET), agree(CODE))
        self.assertEqual(last(*line, now(6), redeem(SECRET, CODE, A, R)), 0)
        self.assertEqual(last(*line, now(7), redeem(SECRET, CODE, A, R)), -62)

    def test_refused_changes_nothing(self):
        for wrong in (begin(0, 9, 9), begin(9, 0, 9), begin(9, 9, 16777217)):
            with self.subTest(wrong=wrong):
                line = (begin(code_life=5), program(SECRET), now(3), agree(CODE), wrong)
                self.assertEqual(last(*line, now(2)), -22)
                self.assertEqual(last(*line, now(3)), 0)
                self.assertEqual(last(*line, program(SECRET)), 1)
                self.assertEqual(last(*line, agree(CODE)), -17)
                self.assertEqual(last(*line, now(7), redeem(SECRET, CODE, A, R)), 0)
                later = (agree(A), now(8), redeem(SECRET, A, CODE[::-1], R))
                self.assertEqual(told(*line, *later)[-3:], [0, 0, -62])

    def test_refused_keeps_the_lives_and_the_tokens(self):
        line = (begin(50, 5, 7), program(SECRET), agree(CODE), redeem(SECRET, CODE, A, R))
        for wrong in (begin(0, 9, 9), begin(9, 0, 9), begin(9, 9, 16777217)):
            self.assertEqual(told(*line, wrong, now(4), check(A))[-3:], [-22, 0, (1, 0, 0, 1)])
            later = (renew(SECRET, R, bytes_16(5), bytes_16(6)), now(4), check(bytes_16(5)), now(5), check(bytes_16(5)))
            self.assertEqual(told(*line, wrong, *later)[-5:], [0, 0, (1, 0, 0, 1), 0, -62])
            later = (now(6), renew(SECRET, R, bytes_16(5), bytes_16(6)), withdraw(0, 0))
            self.assertEqual(told(*line, wrong, *later)[-3:], [0, 0, 1])


class Now(unittest.TestCase):
    def test_forward_and_at_the_same_time(self):
        self.assertEqual(told(begin(), now(0), now(1), now(1), now(500)), [0, 0, 0, 0, 0])

    def test_before_now(self):
        self.assertEqual(told(begin(), now(10), now(9), now(0), now(10)), [0, 0, -22, -22, 0])

    def test_the_last_time_and_above(self):
        self.assertEqual(told(begin(), now(2 ** 40)), [0, 0])
        self.assertEqual(told(begin(), now(2 ** 40), now(2 ** 40)), [0, 0, 0])
        self.assertEqual(told(begin(), now(2 ** 40 + 1)), [0, -22])
        self.assertEqual(told(begin(), now(2 ** 64 - 1)), [0, -22])

    def test_refused_changes_nothing(self):
        self.assertEqual(told(begin(), now(5), now(2 ** 40 + 1), now(5)), [0, 0, -22, 0])
        self.assertEqual(told(begin(), now(5), now(3), now(4)), [0, 0, -22, -22])


    def test_refused_ends_no_token(self):
        line = (begin(life=10), program(SECRET), agree(CODE), redeem(SECRET, CODE, A, R), now(9))
        for t in (8, 2 ** 40 + 1, 2 ** 64 - 1):
            self.assertEqual(told(*line, now(t), check(A))[-2:], [-22, (1, 0, 0, 1)])


class Program(unittest.TestCase):
    def test_32_and_the_one_beyond(self):
        line = [begin()] + [program(bytes_16(k)) for k in range(34)]
        self.assertEqual(told(*line), [0] + list(range(32)) + [-28, -28])

    def test_refused_changes_nothing(self):
        line = [begin()] + [program(bytes_16(k)) for k in range(33)]
        self.assertEqual(last(*line, agree(CODE, program=32)), -2)
        for k in range(32):
            code = bytes_16(100 + k)
            redeemed = redeem(bytes_16(k), code, A, R, program=k)
            self.assertEqual(last(*line, agree(code, program=k), redeemed), 0)

    def test_refused_can_be_handed_nothing(self):
        line = [begin()] + [program(bytes_16(k)) for k in range(33)] + [agree(CODE), redeem(bytes_16(0), CODE, A, R)]
        self.assertEqual(last(*line, hand(bytes_16(0), A, bytes_16(500), to=31)), 0)
        self.assertEqual(last(*line, hand(bytes_16(0), A, bytes_16(500), to=32)), -2)
        self.assertEqual(last(*line, withdraw(0, 32)), -2)

    def test_alike_secrets_and_any_scopes(self):
        line = (begin(), program(SECRET, 0), program(SECRET, 1), program(SECRET, MOST_SCOPES))
        self.assertEqual(told(*line), [0, 0, 1, 2])

    def test_begin_makes_room_again(self):
        line = [begin()] + [program(SECRET)] * 33 + [begin(), program(SECRET)]
        self.assertEqual(told(*line)[-3:], [-28, 0, 0])


if __name__ == "__main__":
    unittest.main()
