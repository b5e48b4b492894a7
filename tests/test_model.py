"""Lines of many calls, drawn with fixed seeds, answered by the program and by the model alike."""

import random
import unittest

from leavegiven.desk import answers
from tests.lines import begin, bytes_16, now, program, redeem, row, sha256
from tests.model import Model

VS = ([], [1], [2] * 64, [3] * 128, [4] * 129)


class Draw:
    """Few secrets, names and times, so that calls run into one another."""

    def __init__(self, seed):
        self.chance = random.Random(seed)
        self.names = [bytes_16(k) for k in range(self.chance.choice((6, 30, 300)))]
        self.secrets = [bytes_16(256 + k) for k in range(2)]
        self.model = Model()
        self.time = 0
        self.line = []
        self.told = []

    def one_of(self, *things):
        return self.chance.choice(things)

    def add(self, call, answer):
        self.line.extend(call)
        self.told.extend([1, answer])

    def begin(self):
        lives = [self.one_of(1, 5, 5, 50, 50, 2 ** 24) for k in range(3)]
        if self.chance.random() < 0.3:
            lives[self.chance.randrange(3)] = self.one_of(0, 2 ** 24 + 1)
        answer = self.model.begin(*lives)
        if answer == 0:
            self.time = 0
        self.add(begin(*lives), answer)

    def now(self):
        t = max(0, self.time + self.one_of(-1, 0, 1, 1, 2, 5))
        if self.chance.random() < 0.01:
            t = self.one_of(2 ** 40 + 1, 2 ** 64 - 1)
        answer = self.model.now(t)
        if answer == 0:
            self.time = t
        self.add(now(t), answer)

    def program(self):
        secret = self.chance.choice(self.secrets)
        scopes = self.one_of(0, 1, 3, 6, 7, 7, 7, 2 ** 32 - 1)
        self.add(program(secret, scopes), self.model.program(scopes, secret))

    def agree(self):
        person = self.one_of(0, 1, 63, 63, 64)
        number = self.chance.randrange(len(self.model.programs) + 1)
        scopes = self.one_of(0, 1, 1, 2, 4, 6, 7, 8)
        challenge = sha256(self.chance.choice(VS))
        code = self.chance.choice(self.names)
        call = [3, person, number, scopes] + row(challenge) + row(code)
        self.add(call, self.model.agree(person, number, scopes, challenge, code))

    def redeem(self):
        number = self.chance.randrange(len(self.model.programs) + 1)
        secret = self.chance.choice(self.secrets)
        code, a, r = (self.chance.choice(self.names) for k in range(3))
        v = self.chance.choice(VS)
        if self.model.codes and self.chance.random() < 0.9:
            kept = self.chance.choice(self.model.codes)
            code = kept["name"]
            if self.chance.random() < 0.8:
                number = kept["program"]
                secret = self.model.programs[number]["secret"]
                v = next(one for one in VS if sha256(one) == kept["challenge"])
        call = redeem(secret, code, a, r, program=number, v=v)
        self.add(call, self.model.redeem(number, secret, code, v, a, r))

    def whole(self):
        while self.model.begun is None:
            self.begin()
        steps = [self.program] + [self.now] * 2 + [self.agree] * 5 + [self.redeem] * 6
        while len(self.line) < 15700:
            if self.chance.random() < 0.004:
                self.begin()
            self.chance.choice(steps)()
        return self.line


class AlikeToTheModel(unittest.TestCase):
    def test_drawn_lines(self):
        met = set()
        for seed in range(60):
            draw = Draw(seed)
            line = draw.whole()
            self.assertLessEqual(len(line), 16000)
            with self.subTest(seed=seed):
                self.assertEqual(answers(line), draw.told)
            met.update(draw.told[1::2])
        self.assertLessEqual({-71, -62, -22, -17, -13, -5, -4, -3, -2, -1, 0}, met)


if __name__ == "__main__":
    unittest.main()
