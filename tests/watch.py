"""Looks on while calls are answered, and tells apart what holds from what doesn't, by the answers alone."""

SHAPES = {
    0: (3, 0), 1: (1, 0), 2: (1, 1), 3: (3, 2), 4: (1, 5), 5: (2, 4), 6: (3, 3), 7: (1, 1), 8: (2, 0), 9: (1, 2),
}
NAMES = ("begin", "now", "program", "agree", "redeem", "renew", "hand", "check", "withdraw", "revoke")


def read(call):
    """A call's name, its whole numbers, its rows as tuples."""
    many_numbers, many_rows = SHAPES[call[0]]
    place = 1 + many_numbers
    rows = []
    for k in range(many_rows):
        rows.append(tuple(call[place + 1:place + 1 + call[place]]))
        place += 1 + call[place]
    if place != len(call):
        raise AssertionError("not one call: %r" % (call,))
    return NAMES[call[0]], call[1:1 + many_numbers], rows


def in_whose_name(call):
    """The number and the secret that a call is made with, None if it has none."""
    name, numbers, rows = read(call)
    return (numbers[0], rows[0]) if name in ("redeem", "renew", "hand", "revoke") else None


class Grant:
    def __init__(self, person, program, scopes, origin, agreed):
        self.person = person
        self.program = program
        self.scopes = scopes
        self.origin = origin
        # When the leave was given that it all came of.
        self.agreed = agreed
        self.ended = False

    def chain(self):
        return [self] + (self.origin.chain() if self.origin else [])


class Watch:
    def __init__(self, test):
        self.test = test
        self.step = 0
        self.accepted = 0
        self.forget()

    def forget(self):
        self.secrets = []
        self.limits = []
        self.codes = {}
        self.redeemed = {}
        self.tokens = {}
        self.used = set()
        self.grants = []
        self.taken_back = {}
        self.seen_dead = set()

    def see(self, call, answer):
        self.step += 1
        name, numbers, rows = read(call)
        whose = in_whose_name(call)
        if whose is not None and answer == 0:
            self.test.assertEqual(whose[1], self.secrets[whose[0]], "done without the secret")
        getattr(self, name)(answer, numbers, rows)

    def begin(self, answer, numbers, rows):
        if answer == 0:
            self.forget()

    def now(self, answer, numbers, rows):
        pass

    def program(self, answer, numbers, rows):
        if answer >= 0:
            self.test.assertEqual(answer, len(self.secrets))
            self.secrets.append(rows[0])
            self.limits.append(numbers[0])

    def agree(self, answer, numbers, rows):
        if answer == 0:
            person, program, scopes = numbers
            self.test.assertEqual(scopes & self.limits[program], scopes)
            self.codes[rows[1]] = (person, program, scopes, self.step)

    def redeem(self, answer, numbers, rows):
        secret, code, v, a, r = rows
        if answer == -13:
            self.redeemed[code].ended = True
        if answer == 0:
            self.test.assertNotIn(code, self.redeemed)
            person, program, scopes, agreed = self.codes[code]
            self.test.assertNotIn((person, program), self.taken_back_since(agreed))
            self.redeemed[code] = self.add_grant(person, program, scopes, None, agreed)
            self.tokens[a] = self.tokens[r] = (self.redeemed[code], scopes)

    def renew(self, answer, numbers, rows):
        secret, r, a, r2 = rows
        if answer == -13 and r in self.used:
            self.tokens[r][0].ended = True
        if answer == 0:
            grant = self.tokens[r][0]
            self.test.assertNotIn(r, self.used)
            self.good(grant, numbers[1])
            self.used.add(r)
            self.tokens[a] = (grant, numbers[1])
            self.tokens[r2] = (grant, self.tokens[r][1])

    def hand(self, answer, numbers, rows):
        if answer == 0:
            program, to, scopes = numbers
            grant, limit = self.tokens[rows[1]]
            self.good(grant, scopes)
            self.test.assertEqual(scopes & limit & self.limits[to], scopes)
            handed = self.add_grant(grant.person, to, scopes, grant, grant.agreed)
            self.test.assertLessEqual(len(handed.chain()), 8)
            self.tokens[rows[2]] = (handed, scopes)

    def check(self, answer, numbers, rows):
        name = rows[0]
        if answer == -13:
            self.seen_dead.add(name)
            self.test.assertTrue(any(grant.ended for grant in self.tokens[name][0].chain()), "ended for no reason")
        if isinstance(answer, tuple):
            self.accepted += 1
            self.test.assertNotIn(name, self.seen_dead, "what's dead came back")
            grant, scopes = self.tokens[name]
            self.test.assertEqual(answer, (1, grant.person, grant.program, scopes))
            self.test.assertEqual(numbers[0] & scopes, numbers[0])
            self.good(grant, scopes)

    def withdraw(self, answer, numbers, rows):
        if answer >= 0:
            self.taken_back[tuple(numbers)] = self.step
            mine = [grant for grant in self.grants if [grant.person, grant.program] == numbers]
            self.test.assertEqual(answer, sum(not grant.ended for grant in mine))
            for grant in mine:
                grant.ended = True

    def revoke(self, answer, numbers, rows):
        if answer == 0:
            self.tokens[rows[1]][0].ended = True

    def add_grant(self, *about):
        self.grants.append(Grant(*about))
        return self.grants[-1]

    def taken_back_since(self, step):
        return [pair for pair, at in self.taken_back.items() if at > step]

    def good(self, grant, scopes):
        """Agreed to, for the program that it all came of, not taken back since, never widened, never ended."""
        chain = grant.chain()
        first = chain[-1]
        self.test.assertEqual(first.person, grant.person)
        self.test.assertNotIn((first.person, first.program), self.taken_back_since(first.agreed))
        for one in chain:
            self.test.assertEqual(scopes & one.scopes, scopes)
            self.test.assertFalse(one.ended, "accepted after its end")
