"""Point 1: begin, now, program."""

import unittest

from tests.lines import (
    MOST_SCOPES, agree, begin, bytes_16, last, now, program, redeem, told,
)

SECRET = bytes_16(1)
CODE = bytes_16(2)
A = bytes_16(3)
R = bytes_16(4)


class Begin(unittest.TestCase):
    def test_each_number_at_its_edges(self):
        for value, answer in ((0, -22), (1, 0), (16777216, 0), (16777217, -22), (2 ** 32 - 1, -22)):
            for name in ("code_life", "life", "renew_life"):
                with self.subTest(name=name, value=value):
                    self.assertEqual(told(begin(**{name: value})), [answer])

    def test_all_three_at_their_edges(self):
        self.assertEqual(told(begin(1, 1, 1)), [0])
        self.assertEqual(told(begin(16777216, 16777216, 16777216)), [0])
        self.assertEqual(told(begin(0, 0, 0)), [-22])
        self.assertEqual(told(begin(16777217, 16777217, 16777217)), [-22])

    def test_refused_till_one_is_answered_0(self):
        line = (begin(0), begin(life=0), begin(), program(SECRET))
        self.assertEqual(told(*line), [-22, -22, 0, 0])

    def test_again_keeps_no_program(self):
        line = (begin(), program(SECRET), program(SECRET), begin())
        self.assertEqual(last(*line, agree(CODE)), -2)
        self.assertEqual(last(*line, program(SECRET)), 0)

    def test_again_keeps_no_code(self):
        line = (begin(), program(SECRET), agree(CODE), begin(), program(SECRET))
        self.assertEqual(last(*line, redeem(SECRET, CODE, A, R)), -3)
        self.assertEqual(last(*line, agree(CODE)), 0)

    def test_again_keeps_no_token(self):
        line = (begin(), program(SECRET), agree(CODE), redeem(SECRET, CODE, A, R), begin(), program(SECRET))
        self.assertEqual(told(*line, agree(A), agree(R))[-2:], [0, 0])

    def test_again_sets_the_time_to_0(self):
        self.assertEqual(told(begin(), now(50), begin(), now(49)), [0, 0, 0, 0])

    def test_again_sets_the_codes_life(self):
        line = (begin(code_life=5), begin(code_life=7), program(SECRET), agree(CODE))
        self.assertEqual(last(*line, now(6), redeem(SECRET, CODE, A, R)), 0)
        self.assertEqual(last(*line, now(7), redeem(SECRET, CODE, A, R)), -62)

    def test_refused_changes_nothing(self):
        for wrong in (begin(0, 9, 9), begin(9, 0, 9), begin(9, 9, 16777217)):
            with self.subTest(wrong=wrong):
                line = (begin(code_life=5), program(SECRET), now(3), agree(CODE), wrong)
                self.assertEqual(last(*line, now(2)), -22)
                self.assertEqual(last(*line, now(3)), 0)
                self.assertEqual(last(*line, program(SECRET)), 1)
                self.assertEqual(last(*line, agree(CODE)), -17)
                self.assertEqual(last(*line, now(7), redeem(SECRET, CODE, A, R)), 0)
                later = (agree(A), now(8), redeem(SECRET, A, CODE[::-1], R))
                self.assertEqual(told(*line, *later)[-3:], [0, 0, -62])


class Now(unittest.TestCase):
    def test_forward_and_at_the_same_time(self):
        self.assertEqual(told(begin(), now(0), now(1), now(1), now(500)), [0, 0, 0, 0, 0])

    def test_before_now(self):
        self.assertEqual(told(begin(), now(10), now(9), now(0), now(10)), [0, 0, -22, -22, 0])

    def test_the_last_time_and_above(self):
        self.assertEqual(told(begin(), now(2 ** 40)), [0, 0])
        self.assertEqual(told(begin(), now(2 ** 40), now(2 ** 40)), [0, 0, 0])
        self.assertEqual(told(begin(), now(2 ** 40 + 1)), [0, -22])
        self.assertEqual(told(begin(), now(2 ** 64 - 1)), [0, -22])

    def test_refused_changes_nothing(self):
        self.assertEqual(told(begin(), now(5), now(2 ** 40 + 1), now(5)), [0, 0, -22, 0])
        self.assertEqual(told(begin(), now(5), now(3), now(4)), [0, 0, -22, -22])


class Program(unittest.TestCase):
    def test_32_and_the_one_beyond(self):
        line = [begin()] + [program(bytes_16(k)) for k in range(34)]
        self.assertEqual(told(*line), [0] + list(range(32)) + [-28, -28])

    def test_refused_changes_nothing(self):
        line = [begin()] + [program(bytes_16(k)) for k in range(33)]
        self.assertEqual(last(*line, agree(CODE, program=32)), -2)
        for k in range(32):
            code = bytes_16(100 + k)
            redeemed = redeem(bytes_16(k), code, A, R, program=k)
            self.assertEqual(last(*line, agree(code, program=k), redeemed), 0)

    def test_alike_secrets_and_any_scopes(self):
        line = (begin(), program(SECRET, 0), program(SECRET, 1), program(SECRET, MOST_SCOPES))
        self.assertEqual(told(*line), [0, 0, 1, 2])

    def test_begin_makes_room_again(self):
        line = [begin()] + [program(SECRET)] * 33 + [begin(), program(SECRET)]
        self.assertEqual(told(*line)[-3:], [-28, 0, 0])


if __name__ == "__main__":
    unittest.main()
