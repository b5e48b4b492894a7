"""Point 2: agree."""

import unittest

from tests.lines import (
    MOST_SCOPES, agree, begin, bytes_16, last, now, program, redeem, told,
)

SECRET = bytes_16(1)
CODE = bytes_16(2)
A = bytes_16(3)
R = bytes_16(4)
START = (begin(), program(SECRET, 6))
REDEEMED = START + (agree(CODE, scopes=2), redeem(SECRET, CODE, A, R))
# Nothing but agree fills the codes, so this is the longest way to a refusal.
FULL = START + tuple(agree(bytes_16(1000 + k), scopes=2) for k in range(128))


class Agree(unittest.TestCase):
    def test_agreed(self):
        self.assertEqual(told(*START, agree(CODE, scopes=2)), [0, 0, 0])

    def test_persons(self):
        for person, answer in ((0, 0), (63, 0), (64, -22), (2 ** 32 - 1, -22)):
            with self.subTest(person=person):
                self.assertEqual(last(*START, agree(CODE, person=person, scopes=2)), answer)

    def test_scopes_0(self):
        self.assertEqual(last(*START, agree(CODE, scopes=0)), -22)

    def test_no_such_program(self):
        for number in (1, 2, 31, 32, 2 ** 32 - 1):
            with self.subTest(number=number):
                self.assertEqual(last(*START, agree(CODE, program=number, scopes=2)), -2)

    def test_scopes_within_the_programs(self):
        for scopes, answer in ((2, 0), (4, 0), (6, 0), (1, -4), (3, -4), (7, -4), (8, -4), (MOST_SCOPES, -4)):
            with self.subTest(scopes=scopes):
                self.assertEqual(last(*START, agree(CODE, scopes=scopes)), answer)

    def test_scopes_of_the_program_that_is_named(self):
        line = START + (program(SECRET, 8), program(SECRET, 0), program(SECRET, MOST_SCOPES))
        self.assertEqual(last(*line, agree(CODE, program=1, scopes=8)), 0)
        self.assertEqual(last(*line, agree(CODE, program=1, scopes=2)), -4)
        self.assertEqual(last(*line, agree(CODE, program=2, scopes=1)), -4)
        self.assertEqual(last(*line, agree(CODE, program=3, scopes=MOST_SCOPES)), 0)

    def test_alike_to_a_code(self):
        line = START + (program(SECRET, 8), agree(CODE, scopes=2))
        self.assertEqual(last(*line, agree(CODE, scopes=2)), -17)
        self.assertEqual(last(*line, agree(CODE, person=5, program=1, scopes=8, v=[1])), -17)

    def test_one_byte_apart_is_not_alike(self):
        line = START + (agree(CODE, scopes=2),)
        for place in range(16):
            other = list(CODE)
            other[place] ^= 128
            self.assertEqual(last(*line, agree(other, scopes=2)), 0)

    def test_alike_to_a_code_that_is_over_or_redeemed(self):
        self.assertEqual(last(*START, agree(CODE, scopes=2), now(5000), agree(CODE, scopes=2)), -17)
        self.assertEqual(last(*REDEEMED, agree(CODE, scopes=2)), -17)

    def test_alike_to_a_token(self):
        self.assertEqual(last(*REDEEMED, agree(A, scopes=2)), -17)
        self.assertEqual(last(*REDEEMED, agree(R, scopes=2)), -17)
        self.assertEqual(last(*REDEEMED, now(5000), agree(A, scopes=2)), -17)
        self.assertEqual(last(*REDEEMED, now(5000), agree(R, scopes=2)), -17)

    def test_a_secret_is_not_a_code(self):
        self.assertEqual(last(*START, agree(SECRET, scopes=2)), 0)

    def test_128_codes_and_the_one_beyond(self):
        self.assertEqual(told(*FULL), [0] * 130)
        self.assertEqual(last(*FULL, agree(CODE, scopes=2)), -28)

    def test_codes_over_or_redeemed_still_count(self):
        self.assertEqual(last(*FULL, now(5000), agree(CODE, scopes=2)), -28)
        redeemed = redeem(SECRET, bytes_16(1000), A, R)
        self.assertEqual(told(*FULL, redeemed, agree(CODE, scopes=2))[-2:], [0, -28])

    def test_begin_makes_room_again(self):
        self.assertEqual(last(*FULL, *START, agree(CODE, scopes=2)), 0)

    def test_the_first_named_is_answered(self):
        taken = bytes_16(1000)
        cases = (
            (agree(taken, person=64, program=1, scopes=9), -22),
            (agree(taken, person=0, program=1, scopes=0), -22),
            (agree(taken, person=64, program=0, scopes=2), -22),
            (agree(taken, program=1, scopes=9), -2),
            (agree(taken, program=0, scopes=9), -4),
            (agree(taken, program=0, scopes=2), -17),
            (agree(CODE, program=0, scopes=9), -4),
            (agree(CODE, program=1, scopes=2), -2),
            (agree(CODE, person=64, scopes=2), -22),
        )
        for call, answer in cases:
            with self.subTest(call=call[:4], answer=answer):
                self.assertEqual(last(*FULL, call), answer)

    def test_refused_changes_nothing(self):
        refused = (
            agree(CODE, person=64, scopes=2), agree(CODE, scopes=0),
            agree(CODE, program=1, scopes=2), agree(CODE, scopes=1),
        )
        for call in refused:
            with self.subTest(call=call[:4]):
                self.assertEqual(last(*START, call, redeem(SECRET, CODE, A, R)), -3)
                self.assertEqual(last(*START, call, agree(CODE, scopes=2)), 0)
        self.assertEqual(last(*FULL, agree(CODE, scopes=2), redeem(SECRET, CODE, A, R)), -3)

    def test_a_refused_alike_code_leaves_the_first_as_it_is(self):
        line = START + (program(bytes_16(9), 8), agree(CODE, scopes=2, v=[1]), now(50))
        line = line + (agree(CODE, person=1, program=1, scopes=8, v=[2]),)
        self.assertEqual(last(*line, redeem(SECRET, CODE, A, R, v=[1])), 0)
        self.assertEqual(last(*line, redeem(SECRET, CODE, A, R, v=[2])), -71)
        self.assertEqual(last(*line, redeem(bytes_16(9), CODE, A, R, program=1, v=[2])), -1)
        self.assertEqual(last(*line, now(100), redeem(SECRET, CODE, A, R, v=[1])), -62)


if __name__ == "__main__":
    unittest.main()
