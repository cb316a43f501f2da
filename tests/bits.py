"""What the tests share: doubles by their bits, and numbers that look drawn by lot but are always the same."""

import struct

SIGN = 1 << 63
INFINITY = 0x7FF << 52
GREATEST = INFINITY - 1
LEAST = 1
LEAST_NORMAL = 1 << 52
ONE = 0x3FF << 52

NOT_FINITE = [
    INFINITY,
    SIGN | INFINITY,
    INFINITY | 1,
    INFINITY | (1 << 51),
    SIGN | INFINITY | 1,
    SIGN | INFINITY | (1 << 51),
    SIGN - 1,
    2 * SIGN - 1,
]

NOT_ABOVE_ZERO = [0, SIGN, SIGN | LEAST, SIGN | LEAST_NORMAL, SIGN | ONE, SIGN | GREATEST]


def bits_of(number):
    return struct.unpack("<Q", struct.pack("<d", number))[0]


def double_of(bits):
    return struct.unpack("<d", struct.pack("<Q", bits))[0]


def power(exponent):
    return bits_of(2.0 ** exponent)


def negative(bits):
    return bits ^ SIGN


def is_finite(bits):
    return bits & INFINITY != INFINITY


def mixed_words(seed, count):
    """count words of 64 bits (the splitmix64 sequence that begins at seed)."""
    words = []
    state = seed
    for _ in range(count):
        state = (state + 0x9E3779B97F4A7C15) % 2 ** 64
        word = state
        word = (word ^ (word >> 30)) * 0xBF58476D1CE4E5B9 % 2 ** 64
        word = (word ^ (word >> 27)) * 0x94D049BB133111EB % 2 ** 64
        words.append(word ^ (word >> 31))
    return words
