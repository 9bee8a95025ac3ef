"""SHA-256 (points 202 to 207)."""

from math import isqrt

from swarmwhole.octets import as_octets, cut, joined, number_of

MASK = 2 ** 32 - 1
BLOCK = 64


def first_primes(count):
    """The list of the first primes, so many, in ascending order."""
    primes = []
    number = 2
    while len(primes) < count:
        if all(number % prime != 0 for prime in primes):
            primes.append(number)
        number += 1
    return primes


def cube_root(number):
    """The greatest integer whose cube is at most the number."""
    # From a guess that is too great, Newton's steps become less and never pass the root.
    guess = 1 << (number.bit_length() // 3 + 1)
    while guess ** 3 > number:
        guess = (2 * guess + number // (guess * guess)) // 3
    return guess


def square_word(number):
    """The first 32 bits of the fraction of the square root."""
    return isqrt(number << 64) & MASK


def cube_word(number):
    """The first 32 bits of the fraction of the cube root."""
    return cube_root(number << 96) & MASK


def start_words():
    """The 8 words of the first state."""
    return tuple([square_word(prime) for prime in first_primes(8)])


def round_words():
    """The 64 words of the rounds."""
    return tuple([cube_word(prime) for prime in first_primes(64)])


def rotated(word, count):
    """The word with its bits moved so many places to the right in a ring."""
    return (_doubled(word) >> count) & MASK


def _doubled(word):
    # A plain shift of two copies side by side has the word's ring in its low 32 bits.
    return word | (word << 32)


def padded(octets):
    """The octets with their padding, a multiple of 64 octets."""
    zeros = (BLOCK - 9 - len(octets)) % BLOCK
    return joined([octets, (128,), (0,) * zeros, as_octets(8 * len(octets), size=8)])


def block_words(block):
    """The 16 words of 64 octets."""
    return tuple([number_of(part) for part in cut(block, 4)])


def expanded(words):
    """The 64 words for the 16 words of a block."""
    found = list(words)
    for place in range(16, 64):
        # Bits above the lowest 32 need no care before the sum: the mask takes them off.
        x = found[place - 15]
        ring = _doubled(x)
        low = (ring >> 7) ^ (ring >> 18) ^ (x >> 3)
        y = found[place - 2]
        ring = _doubled(y)
        high = (ring >> 17) ^ (ring >> 19) ^ (y >> 10)
        found.append((found[place - 16] + found[place - 7] + low + high) & MASK)
    return tuple(found)


def compressed(state, words, rounds):
    """The state behind a block of 16 words, for the state ahead of it and the round words."""
    a, b, c, d, e, f, g, h = state
    for k, w in zip(rounds, expanded(words)):
        ring = _doubled(e)
        first = h + ((ring >> 6) ^ (ring >> 11) ^ (ring >> 25)) + ((e & f) ^ ((e ^ MASK) & g)) + k + w
        ring = _doubled(a)
        second = ((ring >> 2) ^ (ring >> 13) ^ (ring >> 22)) + ((a & b) ^ (a & c) ^ (b & c))
        h, g, f, e = g, f, e, (d + first) & MASK
        d, c, b, a = c, b, a, (first + second) & MASK
    behind = (a, b, c, d, e, f, g, h)
    return tuple([(old + new) & MASK for old, new in zip(state, behind)])


def sha(octets, start, rounds):
    """The 32 octets of SHA-256, for the words of the first state and the round words."""
    state = start
    for block in cut(padded(octets), BLOCK):
        state = compressed(state, block_words(block), rounds)
    return joined([as_octets(word, size=4) for word in state])
