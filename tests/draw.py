"""Lines of many calls, drawn with a seed, with what the model answers to them."""

import random

from tests import lines
from tests.model import Model

VS = ([], [1], [2] * 64, [3] * 128, [4] * 129)


class Draw:
    """With few names and many slips calls run into one another; with many names and few slips they go far."""

    def __init__(self, seed, names, slip, young, hands, renews, most):
        self.chance = random.Random(seed)
        self.names = names
        self.secrets = [lines.bytes_16(2 ** 40 + k) for k in range(3)]
        self.slip = slip
        # How often the youngest is taken: so that chains grow.
        self.young = young
        # How often these two are called, where agree is called five times.
        self.hands = hands
        self.renews = renews
        self.most = most
        self.model = Model()
        self.calls = []
        self.told = []
        self.size = 0

    def slips(self):
        return self.chance.random() < self.slip

    def one_of(self, *things):
        return self.chance.choice(things)

    def add(self, call, answer):
        self.calls.append(call)
        self.size += len(call)
        self.told.append(answer)

    def name(self):
        return lines.bytes_16(self.chance.randrange(self.names))

    def kept_name(self, kept):
        if kept and not self.slips():
            return (kept[-1] if self.chance.random() < self.young else self.chance.choice(kept))["name"]
        return self.name()

    def scopes(self, limit):
        if self.slips():
            return self.one_of(0, 1, 2, 4, 7, 8, 2 ** 31, 2 ** 32 - 1)
        if self.chance.random() < 0.5:
            return limit
        return limit & self.chance.getrandbits(4) or limit

    def number(self):
        if self.slips() or not self.model.programs:
            return self.one_of(len(self.model.programs), 31, 2 ** 32 - 1)
        return self.chance.randrange(len(self.model.programs))

    def in_name_of(self, number):
        """A program's number and secret, right or wrong."""
        if self.slips():
            number = self.number()
        if self.slips() or number >= len(self.model.programs):
            return number, self.chance.choice(self.secrets)
        return number, self.model.programs[number]["secret"]

    def limit_of(self, number):
        return self.model.programs[number]["scopes"] if number < len(self.model.programs) else 7

    def begin(self):
        lives = [self.one_of(1, 5, 20, 50, 50, 2 ** 24, 2 ** 24) for k in range(3)]
        if self.slips():
            lives[self.chance.randrange(3)] = self.one_of(0, 2 ** 24 + 1, 2 ** 32 - 1)
        self.add(lines.begin(*lives), self.model.begin(*lives))

    def now(self):
        t = self.model.time + self.one_of(0, 1, 1, 2, 5)
        if self.slips():
            t = self.one_of(max(0, self.model.time - 1), 0, 2 ** 40 + 1, 2 ** 64 - 1)
        self.add(lines.now(t), self.model.now(t))

    def program(self):
        secret = self.chance.choice(self.secrets)
        scopes = self.one_of(3, 6, 7, 7, 15, 2 ** 32 - 1, 2 ** 32 - 1)
        if self.slips():
            scopes = 0
        self.add(lines.program(secret, scopes), self.model.program(scopes, secret))

    def agree(self):
        person = self.one_of(64, 2 ** 32 - 1) if self.slips() else self.one_of(0, 1, 2, 63)
        number = self.number()
        scopes = self.scopes(self.limit_of(number))
        v = self.chance.choice(VS[:-1])
        code = self.name()
        call = lines.agree(code, person=person, program=number, scopes=scopes, v=v)
        self.add(call, self.model.agree(person, number, scopes, lines.sha256(v), code))

    def redeem(self):
        fresh = [one for one in self.model.codes if one["grant"] is None]
        code = self.kept_name(self.model.codes if self.slips() else fresh)
        kept = next((one for one in self.model.codes if one["name"] == code), None)
        number, secret = self.in_name_of(kept["program"] if kept else self.number())
        v = self.chance.choice(VS)
        if kept and not self.slips():
            v = next(one for one in VS if lines.sha256(one) == kept["challenge"])
        a, r = self.name(), self.name()
        call = lines.redeem(secret, code, a, r, program=number, v=v)
        self.add(call, self.model.redeem(number, secret, code, v, a, r))

    def tokens(self, sort):
        return [one for one in self.model.tokens if self.slips() or one["sort"] == sort and not one["used"]]

    def kept_token(self, name):
        return next((one for one in self.model.tokens if one["name"] == name), None)

    def renew(self):
        r = self.kept_name(self.tokens("renewing"))
        kept = self.kept_token(r)
        number, secret = self.in_name_of(kept["grant"]["program"] if kept else self.number())
        scopes = self.scopes(kept["grant"]["scopes"] if kept else 7)
        a, r2 = self.name(), self.name()
        call = lines.renew(secret, r, a, r2, program=number, scopes=scopes)
        self.add(call, self.model.renew(number, scopes, secret, r, a, r2))

    def hand(self):
        a = self.kept_name(self.tokens("use"))
        kept = self.kept_token(a)
        number, secret = self.in_name_of(kept["grant"]["program"] if kept else self.number())
        to = self.number()
        scopes = self.scopes((kept["scopes"] if kept else 7) & self.limit_of(to))
        b = self.name()
        call = lines.hand(secret, a, b, program=number, to=to, scopes=scopes)
        self.add(call, self.model.hand(number, to, scopes, secret, a, b))

    def check(self):
        a = self.kept_name(self.tokens("use"))
        kept = self.kept_token(a)
        scopes = self.scopes(kept["scopes"] if kept else 7)
        self.add(lines.check(a, scopes), self.model.check(scopes, a))

    def withdraw(self):
        person = 64 if self.slips() else self.one_of(0, 1, 2, 63)
        number = self.number()
        self.add(lines.withdraw(person, number), self.model.withdraw(person, number))

    def revoke(self):
        t = self.kept_name(self.model.tokens)
        kept = self.kept_token(t)
        number, secret = self.in_name_of(kept["grant"]["program"] if kept else self.number())
        self.add(lines.revoke(secret, t, program=number), self.model.revoke(number, secret, t))

    def whole(self):
        while self.model.begun is None:
            self.begin()
        for k in range(3):
            self.program()
        steps = [self.now] * 2 + [self.agree] * 5 + [self.redeem] * 6 + [self.check] * 6
        steps = steps + [self.renew] * self.renews + [self.hand] * self.hands
        while self.size < self.most:
            if self.slips():
                self.one_of(self.withdraw, self.revoke)()
            if self.slips():
                self.program()
            if self.chance.random() < 0.002:
                self.begin()
            self.chance.choice(steps)()
        return self


# Names, slips, how often the youngest, hands, renews: crowded lines first, then roomy ones, deep ones, full ones.
SORTS = (
    (8, 0.1, 0.3, 5, 5), (40, 0.15, 0.3, 5, 5), (300, 0.08, 0.5, 5, 5), (10 ** 5, 0.02, 0.4, 5, 5),
    (10 ** 5, 0.01, 0.9, 40, 1), (10 ** 5, 0.005, 0.9, 2, 60),
)


def drawn(seed, most=15800):
    """Alike for alike seeds, which go round through the sorts of line."""
    return Draw(seed, *SORTS[seed % len(SORTS)], most).whole()
