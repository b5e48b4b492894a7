"""SHA-256 as FIPS 180-4 tells it, over whole numbers from 0 to 255."""

WORD = 0xFFFFFFFF

START = (
    0x6A09E667, 0xBB67AE85, 0x3C6EF372, 0xA54FF53A, 0x510E527F, 0x9B05688C, 0x1F83D9AB, 0x5BE0CD19,
)

ROUND_KEYS = (
    0x428A2F98, 0x71374491, 0xB5C0FBCF, 0xE9B5DBA5, 0x3956C25B, 0x59F111F1, 0x923F82A4, 0xAB1C5ED5,
    0xD807AA98, 0x12835B01, 0x243185BE, 0x550C7DC3, 0x72BE5D74, 0x80DEB1FE, 0x9BDC06A7, 0xC19BF174,
    0xE49B69C1, 0xEFBE4786, 0x0FC19DC6, 0x240CA1CC, 0x2DE92C6F, 0x4A7484AA, 0x5CB0A9DC, 0x76F988DA,
    0x983E5152, 0xA831C66D, 0xB00327C8, 0xBF597FC7, 0xC6E00BF3, 0xD5A79147, 0x06CA6351, 0x14292967,
    0x27B70A85, 0x2E1B2138, 0x4D2C6DFC, 0x53380D13, 0x650A7354, 0x766A0ABB, 0x81C2C92E, 0x92722C85,
    0xA2BFE8A1, 0xA81A664B, 0xC24B8B70, 0xC76C51A3, 0xD192E819, 0xD6990624, 0xF40E3585, 0x106AA070,
    0x19A4C116, 0x1E376C08, 0x2748774C, 0x34B0BCB5, 0x391C0CB3, 0x4ED8AA4A, 0x5B9CCA4F, 0x682E6FF3,
    0x748F82EE, 0x78A5636F, 0x84C87814, 0x8CC70208, 0x90BEFFFA, 0xA4506CEB, 0xBEF9A3F7, 0xC67178F2,
)


def rotated(word, by):
    return ((word >> by) | (word << (32 - by))) & WORD


def big_sigma_0(word):
    return rotated(word, 2) ^ rotated(word, 13) ^ rotated(word, 22)


def big_sigma_1(word):
    return rotated(word, 6) ^ rotated(word, 11) ^ rotated(word, 25)


def small_sigma_0(word):
    return rotated(word, 7) ^ rotated(word, 18) ^ (word >> 3)


def small_sigma_1(word):
    return rotated(word, 17) ^ rotated(word, 19) ^ (word >> 10)


def choice(x, y, z):
    return (x & y) ^ ((x ^ WORD) & z)


def majority(x, y, z):
    return (x & y) ^ (x & z) ^ (y & z)


def big_endian(number, size):
    return [(number >> (8 * (size - 1 - k))) & 255 for k in range(size)]


def padded(message):
    """The message, a set bit, as few zeros as fill the last block, and how many bits it had."""
    zeros = (55 - len(message)) % 64
    return list(message) + [128] + [0] * zeros + big_endian(8 * len(message), 8)


def schedule(block):
    """The 64 words that a block of 64 bytes gives to its rounds."""
    words = []
    for k in range(0, 64, 4):
        words.append((block[k] << 24) | (block[k + 1] << 16) | (block[k + 2] << 8) | block[k + 3])
    for k in range(16, 64):
        fresh = small_sigma_1(words[k - 2]) + words[k - 7] + small_sigma_0(words[k - 15]) + words[k - 16]
        words.append(fresh & WORD)
    return words


def after_round(state, key, word):
    first = state[7] + big_sigma_1(state[4]) + choice(state[4], state[5], state[6]) + key + word
    second = big_sigma_0(state[0]) + majority(state[0], state[1], state[2])
    top = (first + second) & WORD
    middle = (state[3] + first) & WORD
    return [top, state[0], state[1], state[2], middle, state[4], state[5], state[6]]


def after_block(state, block):
    words = schedule(block)
    worked = list(state)
    for k in range(64):
        worked = after_round(worked, ROUND_KEYS[k], words[k])
    return [(state[k] + worked[k]) & WORD for k in range(8)]


def digest(message):
    """The 32 bytes, as a tuple, that SHA-256 makes of a message."""
    whole = padded(message)
    state = list(START)
    for k in range(0, len(whole), 64):
        state = after_block(state, whole[k:k + 64])
    told = []
    for word in state:
        told.extend(big_endian(word, 4))
    return tuple(told)
