"""The interface: how calls are laid out in the list, and answers in the list given back."""

import contextlib
import io
import sys
import unittest

from leavegiven.desk import answers
from tests.lines import agree, begin, bytes_16, check, flat, hand, now, program, redeem, renew, revoke, withdraw

SECRET = bytes_16(1)
V = [9] * 70
LINE = flat([
    begin(0), begin(), program(SECRET, 3), program(bytes_16(2), 3), now(5), now(4),
    agree(bytes_16(10), person=63, program=1, scopes=3, v=V), agree(bytes_16(11), scopes=4),
    redeem(bytes_16(2), bytes_16(10), bytes_16(20), bytes_16(21), program=1, v=V),
    check(bytes_16(20), 2), check(bytes_16(21), 2),
    renew(bytes_16(2), bytes_16(21), bytes_16(22), bytes_16(23), program=1, scopes=2),
    check(bytes_16(22), 2), check(bytes_16(22), 1),
    hand(bytes_16(2), bytes_16(20), bytes_16(30), program=1, to=0, scopes=1), check(bytes_16(30)),
    revoke(SECRET, bytes_16(30)), check(bytes_16(30)), withdraw(63, 1), withdraw(63, 1), withdraw(64, 1),
    redeem(bytes_16(2), bytes_16(10), bytes_16(24), bytes_16(25), program=1, v=V),
])
TOLD = [1, -22, 1, 0, 1, 0, 1, 1, 1, 0, 1, -22, 1, 0, 1, -4, 1, 0]
TOLD = TOLD + [4, 1, 63, 1, 3, 1, -3, 1, 0, 4, 1, 63, 1, 2, 1, -4, 1, 0, 4, 1, 63, 0, 1]
TOLD = TOLD + [1, 0, 1, -13, 1, 1, 1, 0, 1, -22, 1, -13]


class Frozen(list):
    """A list that tells on who changes it, be it for a while."""

    def refuse(self, *given):
        raise AssertionError("the list handed in was changed")

    append = extend = insert = pop = remove = clear = sort = reverse = refuse
    __setitem__ = __delitem__ = __iadd__ = __imul__ = refuse


class Answers(unittest.TestCase):
    def test_one_call(self):
        self.assertEqual(answers([0, 1, 1, 1]), [1, 0])
        self.assertEqual(answers([0, 0, 1, 1]), [1, -22])

    def test_laid_out_by_hand(self):
        secret = list(range(16))
        # The challenge is the SHA-256 of no bytes.
        challenge = list(bytes.fromhex("e3b0c44298fc1c149afbf4c8996fb92427ae41e4649b934ca495991b7852b855"))
        line = [0, 5, 6, 7] + [1, 2] + [2, 12, 16] + secret
        line = line + [3, 63, 0, 4, 32] + challenge + [16] + [8] * 16
        line = line + [4, 0, 16] + secret + [16] + [8] * 16 + [0] + [16] + [7] * 16 + [16] + [6] * 16
        self.assertEqual(answers(line), [1, 0, 1, 0, 1, 0, 1, 0, 1, 0])
        line = line + [2, 6, 16] + [1] * 16
        line = line + [5, 0, 4, 16] + secret + [16] + [6] * 16 + [16] + [5] * 16 + [16] + [4] * 16
        line = line + [6, 0, 1, 4, 16] + secret + [16] + [5] * 16 + [16] + [3] * 16
        line = line + [7, 4, 16] + [3] * 16 + [7, 0, 16] + [2] * 16
        line = line + [9, 1, 16] + [1] * 16 + [16] + [3] * 16 + [8, 63, 0] + [8, 63, 1]
        told = [1, 0, 1, 0, 1, 0, 1, 0, 1, 0, 1, 1, 1, 0, 1, 0, 4, 1, 63, 1, 4, 1, -3, 1, 0, 1, 1, 1, 0]
        self.assertEqual(answers(line), told)

    def test_several_calls(self):
        self.assertEqual(answers(LINE), TOLD)

    def test_a_prefix_of_calls_answers_a_prefix(self):
        self.assertEqual(answers(LINE[:4]), TOLD[:2])
        self.assertEqual(answers(LINE[:8]), TOLD[:4])

    def test_the_list_is_the_same_afterwards(self):
        line = list(LINE)
        answers(line)
        self.assertEqual(line, LINE)

    def test_the_list_is_never_changed(self):
        self.assertEqual(answers(Frozen(LINE)), TOLD)

    def test_the_list_is_as_it_was_while_the_call_runs(self):
        line = list(LINE)
        looks = []

        def look(frame, event, argument):
            looks.append(line == LINE)
            return look

        kept = sys.gettrace()
        sys.settrace(look)
        try:
            told = answers(line)
        finally:
            sys.settrace(kept)
        self.assertEqual(told, TOLD)
        self.assertGreater(len(looks), 1000)
        self.assertTrue(all(looks))

    def test_nothing_is_kept_from_one_time_to_the_next(self):
        first = answers(LINE)
        self.assertEqual(answers(LINE), first)
        self.assertEqual(answers(begin() + agree(bytes_16(10))), [1, 0, 1, -2])
        self.assertEqual(answers(LINE), first)

    def test_a_list_given_back_is_the_callers_own(self):
        first = answers(LINE)
        first.clear()
        self.assertEqual(answers(LINE), TOLD)

    def test_whole_numbers_in_a_list(self):
        told = answers(LINE)
        self.assertIs(type(told), list)
        for number in told:
            self.assertIs(type(number), int)

    def test_nothing_is_printed(self):
        out = io.StringIO()
        with contextlib.redirect_stdout(out), contextlib.redirect_stderr(out):
            answers(LINE)
        self.assertEqual(out.getvalue(), "")

    def test_a_check_answered_1_has_four_numbers_and_any_other_answer_one(self):
        line = begin() + program(SECRET) + agree(bytes_16(10))
        line = line + redeem(SECRET, bytes_16(10), bytes_16(20), bytes_16(21))
        told = [1, 0] * 4
        self.assertEqual(answers(line + check(bytes_16(20), 1)), told + [4, 1, 0, 0, 1])
        self.assertEqual(answers(line + check(bytes_16(20), 2)), told + [1, -4])
        self.assertEqual(answers(line + check(bytes_16(21))), told + [1, -3])
        self.assertEqual(answers(line + now(10) + check(bytes_16(20))), told + [1, 0, 1, -62])
        self.assertEqual(answers(line + withdraw() + check(bytes_16(20))), told + [1, 1, 1, -13])

    def test_2000_calls(self):
        line = begin() + flat([now(k) for k in range(1999)])
        self.assertEqual(answers(line), [1, 0] * 2000)

    def test_16000_numbers(self):
        v = [3] * 128
        one = agree(bytes_16(10)) + redeem(SECRET, bytes_16(10), bytes_16(20), bytes_16(21), v=v)
        line = begin() + program(SECRET) + one * ((16000 - 23) // len(one))
        self.assertLessEqual(len(line), 16000)
        told = answers(line)
        self.assertEqual(told[:8], [1, 0, 1, 0, 1, 0, 1, -71])
        self.assertEqual(set(told[9::4]), {-17})
        self.assertEqual(set(told[11::4]), {-71})

    def test_800_checks_of_a_chain(self):
        line = begin() + program(SECRET) + agree(bytes_16(10)) + redeem(SECRET, bytes_16(10), bytes_16(20), bytes_16(9))
        for k in range(20, 27):
            line = line + hand(SECRET, bytes_16(k), bytes_16(k + 1))
        line = line + check(bytes_16(27), 1) * 800
        self.assertLessEqual(len(line), 16000)
        self.assertEqual(answers(line), [1, 0] * 11 + [4, 1, 0, 0, 1] * 800)

    def test_2000_calls_without_rows(self):
        line = begin() + program(SECRET) + withdraw() * 1998
        self.assertEqual(answers(line), [1, 0] * 2000)

    def test_a_number_that_is_no_call(self):
        for number in (10, -1, 255):
            with self.assertRaises(KeyError):
                answers(begin() + [number])


if __name__ == "__main__":
    unittest.main()
