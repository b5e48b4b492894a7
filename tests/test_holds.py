"""What holds over the whole program, on lines drawn with fixed seeds: a, b, c, and what refused calls leave."""

import unittest

from leavegiven.desk import answers
from tests.draw import drawn
from tests.lines import check, flat, parted
from tests.watch import Watch, in_whose_name, read


def answered(calls):
    return parted(answers(flat(calls)))


def is_refused(answer):
    return not isinstance(answer, tuple) and answer < 0


def changes_nothing(call, answer):
    """Refused, and not by the -13 that ends a grant."""
    return is_refused(answer) and not (answer == -13 and read(call)[0] in ("redeem", "renew"))


def is_without_secret(call, secrets):
    whose = in_whose_name(call)
    return whose is not None and (whose[0] >= len(secrets) or secrets[whose[0]] != whose[1])


def marks_without_secret(calls, told):
    """For each call whether it is made in a program's name without its secret."""
    secrets = []
    marks = []
    for call, answer in zip(calls, told):
        name, numbers, rows = read(call)
        marks.append(is_without_secret(call, secrets))
        if name == "begin" and answer == 0:
            secrets = []
        if name == "program" and answer >= 0:
            secrets.append(rows[0])
    return marks


class Holds(unittest.TestCase):
    def test_what_is_accepted_what_shrinks_and_what_stays_dead(self):
        accepted = 0
        for seed in range(2000, 2090):
            calls = drawn(seed, 30000 if seed % 3 == 0 else 15800).calls
            watch = Watch(self)
            with self.subTest(seed=seed):
                for call, answer in zip(calls, answered(calls)):
                    watch.see(call, answer)
            accepted += watch.accepted
        self.assertGreater(accepted, 1000)

    def test_every_token_after_every_line(self):
        for seed in range(2100, 2130):
            calls = drawn(seed).calls
            for cut in (len(calls) // 3, len(calls) // 2, len(calls)):
                names = {tuple(row) for call in calls[:cut] for row in read(call)[2] if len(row) == 16}
                line = calls[:cut] + [check(name) for name in sorted(names)]
                watch = Watch(self)
                with self.subTest(seed=seed, cut=cut):
                    for call, answer in zip(line, answered(line)):
                        watch.see(call, answer)

    def test_without_its_secret_nothing_is_done(self):
        left_out = 0
        for seed in range(2200, 2260):
            calls = drawn(seed).calls
            told = answered(calls)
            marks = marks_without_secret(calls, told)
            for mark, answer in zip(marks, told):
                if mark:
                    self.assertIn(answer, (-22, -2, -5))
            kept = [k for k in range(len(calls)) if not marks[k]]
            left_out += len(calls) - len(kept)
            with self.subTest(seed=seed):
                self.assertEqual(answered([calls[k] for k in kept]), [told[k] for k in kept])
        self.assertGreater(left_out, 500)

    def test_what_one_takes_back_touches_nobody_elses(self):
        touched = 0
        for seed in range(2300, 2324):
            calls = drawn(seed).calls
            told = answered(calls)
            watch = Watch(self)
            for k in range(len(calls)):
                if read(calls[k])[0] == "withdraw" and not is_refused(told[k]):
                    names = sorted(watch.tokens)
                    checks = [check(name) for name in names]
                    before = answered(calls[:k] + checks)[k:]
                    behind = answered(calls[:k + 1] + checks)[k + 1:]
                    changed = [name for name, one, other in zip(names, before, behind) if one != other]
                    for name in changed:
                        self.assertEqual(watch.tokens[name][0].person, calls[k][1])
                    touched += len(changed)
                watch.see(calls[k], told[k])
        self.assertGreater(touched, 20)


class Refused(unittest.TestCase):
    def test_changes_nothing(self):
        met = set()
        for seed in range(2400, 2490):
            calls = drawn(seed, 40000 if seed % 3 == 0 else 15800).calls
            told = answered(calls)
            kept = [k for k in range(len(calls)) if not changes_nothing(calls[k], told[k])]
            met.update((calls[k][0], told[k]) for k in range(len(calls)) if changes_nothing(calls[k], told[k]))
            with self.subTest(seed=seed):
                self.assertEqual(answered([calls[k] for k in kept]), [told[k] for k in kept])
        self.assertGreater(len(met), 40)

    def test_each_one_by_itself(self):
        for seed in range(2500, 2512):
            calls = drawn(seed, 6000).calls
            told = answered(calls)
            for k in range(len(calls)):
                if changes_nothing(calls[k], told[k]):
                    self.assertEqual(answered(calls[:k] + calls[k + 1:]), told[:k] + told[k + 1:], (seed, k))

    def test_check_changes_nothing(self):
        for seed in range(2600, 2630):
            calls = drawn(seed).calls
            told = answered(calls)
            kept = [k for k in range(len(calls)) if read(calls[k])[0] != "check"]
            self.assertEqual(answered([calls[k] for k in kept]), [told[k] for k in kept])


class Anew(unittest.TestCase):
    def test_begin_in_the_midst(self):
        for seed in range(2700, 2724):
            first = drawn(seed).calls
            second = drawn(seed + 1).calls
            with self.subTest(seed=seed):
                self.assertEqual(answered(first + second), answered(first) + answered(second))

    def test_one_list_after_another(self):
        first = drawn(2803)
        second = drawn(2804)
        for draw in (first, second, first, first, second):
            self.assertEqual(answered(draw.calls), draw.told)


if __name__ == "__main__":
    unittest.main()
