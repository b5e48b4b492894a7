"""The promises told a second time, as plainly as can be, to hold the program against."""

import hashlib


def first_due(refusals):
    for number, is_due in refusals:
        if is_due():
            return number
    return 0


def origins(grant):
    """The grant and all that it came of."""
    return [] if grant is None else [grant] + origins(grant["from"])


def alive(grant):
    return not any(one["dead"] for one in origins(grant))


class Model:
    def __init__(self):
        self.begun = None

    def begin(self, code_life, life, renew_life):
        if not all(1 <= number <= 2 ** 24 for number in (code_life, life, renew_life)):
            return -22
        self.begun = (code_life, life, renew_life)
        self.time, self.programs, self.codes, self.grants, self.tokens = 0, [], [], [], []
        return 0

    def now(self, t):
        if not self.time <= t <= 2 ** 40:
            return -22
        self.time = t
        return 0

    def program(self, scopes, secret):
        if len(self.programs) == 32:
            return -28
        self.programs.append({"secret": secret, "scopes": scopes})
        return len(self.programs) - 1

    def seen(self, name):
        return any(kept["name"] == name for kept in self.codes + self.tokens)

    def no_program(self, program):
        return program not in range(len(self.programs))

    def of_secret(self, program, secret):
        return (
            (-2, lambda: self.no_program(program)),
            (-5, lambda: self.programs[program]["secret"] != secret),
        )

    def token(self, name, *sorts):
        return next((one for one in self.tokens if one["name"] == name and one["sort"] in sorts), None)

    def add_token(self, name, sort, grant, scopes, over):
        self.tokens.append({
            "name": name, "sort": sort, "grant": grant, "scopes": scopes, "over": over, "used": False,
        })

    def add_grant(self, person, program, scopes, origin):
        self.grants.append({"person": person, "program": program, "scopes": scopes, "from": origin, "dead": False})
        return self.grants[-1]

    def agree(self, person, program, scopes, challenge, code):
        refused = first_due((
            (-22, lambda: person not in range(64) or not scopes),
            (-2, lambda: self.no_program(program)),
            (-4, lambda: scopes & ~self.programs[program]["scopes"]),
            (-17, lambda: self.seen(code)),
            (-28, lambda: len(self.codes) == 128),
        ))
        if not refused:
            self.codes.append({
                "name": code, "person": person, "program": program, "scopes": scopes,
                "challenge": challenge, "over": self.time + self.begun[0], "grant": None,
            })
        return refused

    def redeem(self, program, secret, code, v, a, r):
        kept = next((one for one in self.codes if one["name"] == code), None)
        refused = first_due((
            (-22, lambda: len(v) > 128),
            *self.of_secret(program, secret),
            (-3, lambda: kept is None),
            (-1, lambda: kept["program"] != program),
            (-13, lambda: kept["grant"] is not None),
            (-62, lambda: self.time >= kept["over"]),
            (-71, lambda: list(hashlib.sha256(bytes(v)).digest()) != kept["challenge"]),
            (-17, lambda: self.seen(a) or self.seen(r) or a == r),
            (-28, lambda: len(self.grants) == 128 or len(self.tokens) > 510),
        ))
        if refused == -13:
            kept["grant"]["dead"] = True
        if not refused:
            kept["grant"] = self.add_grant(kept["person"], program, kept["scopes"], None)
            self.add_token(a, "use", kept["grant"], kept["scopes"], self.time + self.begun[1])
            self.add_token(r, "renewing", kept["grant"], kept["scopes"], self.time + self.begun[2])
        return refused

    def renew(self, program, scopes, secret, r, a, r2):
        kept = self.token(r, "renewing")
        refused = first_due((
            (-22, lambda: scopes == 0),
            *self.of_secret(program, secret),
            (-3, lambda: kept is None),
            (-1, lambda: kept["grant"]["program"] != program),
            ("used", lambda: kept["used"]),
            (-13, lambda: not alive(kept["grant"])),
            (-62, lambda: self.time >= kept["over"]),
            (-4, lambda: scopes & ~kept["grant"]["scopes"]),
            (-17, lambda: self.seen(a) or self.seen(r2) or a == r2),
            (-28, lambda: len(self.tokens) > 510),
        ))
        if refused == "used":
            kept["grant"]["dead"] = True
            return -13
        if not refused:
            kept["used"] = True
            self.add_token(a, "use", kept["grant"], scopes, self.time + self.begun[1])
            self.add_token(r2, "renewing", kept["grant"], kept["scopes"], self.time + self.begun[2])
        return refused

    def hand(self, program, to, scopes, secret, a, b):
        kept = self.token(a, "use")
        refused = first_due((
            (-22, lambda: scopes == 0),
            *self.of_secret(program, secret),
            (-2, lambda: self.no_program(to)),
            (-3, lambda: kept is None),
            (-1, lambda: kept["grant"]["program"] != program),
            (-13, lambda: not alive(kept["grant"])),
            (-62, lambda: self.time >= kept["over"]),
            (-4, lambda: scopes & ~(kept["scopes"] & self.programs[to]["scopes"])),
            (-6, lambda: len(origins(kept["grant"])) >= 8),
            (-17, lambda: self.seen(b)),
            (-28, lambda: len(self.grants) == 128 or len(self.tokens) == 512),
        ))
        if not refused:
            grant = self.add_grant(kept["grant"]["person"], to, scopes, kept["grant"])
            self.add_token(b, "use", grant, scopes, min(kept["over"], self.time + self.begun[1]))
        return refused

    def check(self, scopes, a):
        kept = self.token(a, "use")
        refused = first_due((
            (-3, lambda: kept is None),
            (-13, lambda: not alive(kept["grant"])),
            (-62, lambda: self.time >= kept["over"]),
            (-4, lambda: scopes & ~kept["scopes"]),
        ))
        return refused or (1, kept["grant"]["person"], kept["grant"]["program"], kept["scopes"])

    def withdraw(self, person, program):
        refused = first_due((
            (-22, lambda: person not in range(64)),
            (-2, lambda: self.no_program(program)),
        ))
        if refused:
            return refused
        mine = [one for one in self.grants if (one["person"], one["program"]) == (person, program)]
        lived = [one for one in mine if not one["dead"]]
        for one in lived:
            one["dead"] = True
        self.codes = [
            one for one in self.codes
            if one["grant"] is not None or (one["person"], one["program"]) != (person, program)
        ]
        return len(lived)

    def revoke(self, program, secret, t):
        kept = self.token(t, "use", "renewing")
        refused = first_due((
            *self.of_secret(program, secret),
            (-3, lambda: kept is None),
            (-1, lambda: kept["grant"]["program"] != program),
        ))
        if not refused:
            kept["grant"]["dead"] = True
        return refused
