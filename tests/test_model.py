"""Lines of many calls, drawn with fixed seeds, answered by the program and by the model alike."""

import unittest

from leavegiven.desk import answers
from tests.draw import drawn
from tests.lines import flat, parted

# What each call can answer; + stands for all from 1 on.
CAN_ANSWER = {
    0: {-22, 0},
    1: {-22, 0},
    2: {-28, 0, "+"},
    3: {-28, -22, -17, -4, -2, 0},
    4: {-71, -62, -28, -22, -17, -13, -5, -3, -2, -1, 0},
    5: {-62, -28, -22, -17, -13, -5, -4, -3, -2, -1, 0},
    6: {-62, -28, -22, -17, -13, -6, -5, -4, -3, -2, -1, 0},
    7: {-62, -13, -4, -3, "+"},
    8: {-22, -2, 0, "+"},
    9: {-5, -3, -2, -1, 0},
}


def shown(answer):
    return "+" if isinstance(answer, tuple) or answer > 0 else answer


class AlikeToTheModel(unittest.TestCase):
    def alike(self, seeds, most):
        met = {number: set() for number in CAN_ANSWER}
        for seed in seeds:
            draw = drawn(seed, most)
            with self.subTest(seed=seed):
                self.assertEqual(parted(answers(flat(draw.calls))), draw.told)
            for call, answer in zip(draw.calls, draw.told):
                met[call[0]].add(shown(answer))
        return met

    def test_drawn_lines(self):
        met = self.alike(range(120), 15800)
        for number, can in CAN_ANSWER.items():
            # So many tokens or codes don't come up in lines of that length.
            self.assertEqual(met[number] | {-28}, can | {-28}, number)

    def test_long_drawn_lines(self):
        met = self.alike(range(1000, 1060), 45000)
        self.assertEqual(met, CAN_ANSWER)


if __name__ == "__main__":
    unittest.main()
