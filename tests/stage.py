"""Where several tests begin: four programs, and leave of person 5 to the first, redeemed at time 0."""

from tests.lines import agree, begin, bytes_16, hand, program, redeem, renew, told

SECRET = bytes_16(1)
OTHER_SECRET = bytes_16(2)
THIRD_SECRET = bytes_16(3)
NARROW_SECRET = bytes_16(4)
CODE = bytes_16(10)
CODE_2 = bytes_16(11)
A = bytes_16(20)
R = bytes_16(21)
A_2 = bytes_16(22)
R_2 = bytes_16(23)
A_3 = bytes_16(24)
R_3 = bytes_16(25)
B = bytes_16(30)
B_2 = bytes_16(31)
B_3 = bytes_16(32)
NOBODYS = bytes_16(99)
# The programs may be given 31, 31, 31 and 1; the grant has 7.
START = (
    begin(code_life=100, life=10, renew_life=50),
    program(SECRET, 31), program(OTHER_SECRET, 31), program(THIRD_SECRET, 31), program(NARROW_SECRET, 1),
)
REDEEMED = START + (agree(CODE, person=5, scopes=7), redeem(SECRET, CODE, A, R))


def row_of_renewals(count):
    """So many calls of renew, each by the r2 of the one before, and the last r2."""
    calls = []
    r = R
    for k in range(count):
        r2 = bytes_16(10001 + 2 * k)
        calls.append(renew(SECRET, r, bytes_16(10000 + 2 * k), r2, scopes=7))
        r = r2
    return calls, r


def with_tokens(count):
    """A line that ends with so many tokens, and the token for renewing that is not used yet."""
    renewals, r = row_of_renewals((count - 2) // 2)
    line = list(REDEEMED) + renewals
    if count % 2 == 1:
        line.append(hand(SECRET, A, bytes_16(20000), scopes=1))
    return tuple(line), r


def with_grants(count):
    """A line that ends with so many grants: the first is handed on again and again."""
    handed = [hand(SECRET, A, bytes_16(20000 + k), to=1, scopes=1) for k in range(count - 1)]
    return REDEEMED + tuple(handed)


def chain_name(k):
    """The token for use of the k-th grant of a chain, from 1."""
    return A if k == 1 else bytes_16(30000 + k)


def with_chain(length):
    """A line that ends with a chain of so many grants, handed from program 0 to itself."""
    handed = [hand(SECRET, chain_name(k), chain_name(k + 1), scopes=7) for k in range(1, length)]
    return REDEEMED + tuple(handed)


def after(line, *calls):
    """What these calls answer behind the line, which must not be refused anywhere."""
    parts = told(*line, *calls)
    if any(isinstance(part, int) and part < 0 for part in parts[:len(line)]):
        raise AssertionError("refused on the way: %r" % (parts[:len(line)],))
    return parts[len(line):]
