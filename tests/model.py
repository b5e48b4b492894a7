"""The promises told a second time, as plainly as can be, to hold the program against."""

import hashlib


class Model:
    def __init__(self):
        self.begun = None

    def begin(self, code_life, life, renew_life):
        if not all(1 <= number <= 2 ** 24 for number in (code_life, life, renew_life)):
            return -22
        self.begun = (code_life, life, renew_life)
        self.time, self.programs, self.codes, self.grants, self.tokens = 0, [], [], [], []
        return 0

    def now(self, t):
        if not self.time <= t <= 2 ** 40:
            return -22
        self.time = t
        return 0

    def program(self, scopes, secret):
        if len(self.programs) == 32:
            return -28
        self.programs.append({"secret": secret, "scopes": scopes})
        return len(self.programs) - 1

    def seen(self, name):
        return any(kept["name"] == name for kept in self.codes + self.tokens)

    def agree(self, person, program, scopes, challenge, code):
        refusals = (
            (-22, lambda: person not in range(64) or not scopes),
            (-2, lambda: program not in range(len(self.programs))),
            (-4, lambda: scopes & ~self.programs[program]["scopes"]),
            (-17, lambda: self.seen(code)),
            (-28, lambda: len(self.codes) == 128),
        )
        for number, is_due in refusals:
            if is_due():
                return number
        self.codes.append({
            "name": code, "person": person, "program": program, "scopes": scopes,
            "challenge": challenge, "over": self.time + self.begun[0], "grant": None,
        })
        return 0

    def redeem(self, program, secret, code, v, a, r):
        kept = next((one for one in self.codes if one["name"] == code), None)
        refusals = (
            (-22, lambda: len(v) > 128),
            (-2, lambda: program not in range(len(self.programs))),
            (-5, lambda: self.programs[program]["secret"] != secret),
            (-3, lambda: kept is None),
            (-1, lambda: kept["program"] != program),
            (-13, lambda: kept["grant"] is not None),
            (-62, lambda: self.time >= kept["over"]),
            (-71, lambda: list(hashlib.sha256(bytes(v)).digest()) != kept["challenge"]),
            (-17, lambda: self.seen(a) or self.seen(r) or a == r),
            (-28, lambda: len(self.grants) == 128 or len(self.tokens) > 510),
        )
        for number, is_due in refusals:
            if is_due():
                if number == -13:
                    kept["grant"]["dead"] = True
                return number
        kept["grant"] = {"person": kept["person"], "program": program, "scopes": kept["scopes"], "dead": False}
        self.grants.append(kept["grant"])
        self.tokens.append({"name": a, "over": self.time + self.begun[1]})
        self.tokens.append({"name": r, "over": self.time + self.begun[2]})
        return 0
