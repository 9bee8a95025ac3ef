"""Points 202 to 207, and the heading swarmwhole/sha.py of the interface."""

import hashlib
import unittest

from swarmwhole.sha import (
    block_words, compressed, cube_root, cube_word, expanded, first_primes, padded, rotated, round_words, sha,
    square_word, start_words,
)
from tests.helpers import Unchanged

WORDS = (0, 1, 2, 3, 0x80000000, 0xFFFFFFFF, 0x7FFFFFFF, 0x12345678, 0xDEADBEEF, 0xAAAAAAAA, 0x55555555)


def ring(word, count):
    """R of point 202, with strings of bits."""
    bits = f"{word:032b}"
    return int(bits[32 - count:] + bits[:32 - count], 2)


def root_by_halving(number, power):
    """The greatest integer whose power is at most the number."""
    low, high = 0, number + 1
    while high - low > 1:
        middle = (low + high) // 2
        if middle ** power <= number:
            low = middle
        else:
            high = middle
    return low


def expanded_as_told(words):
    w = list(words)
    for i in range(16, 64):
        x, y = w[i - 15], w[i - 2]
        low = ring(x, 7) ^ ring(x, 18) ^ x // 2 ** 3
        high = ring(y, 17) ^ ring(y, 19) ^ y // 2 ** 10
        w.append((w[i - 16] + w[i - 7] + low + high) % 2 ** 32)
    return tuple(w)


def compressed_as_told(state, words, rounds):
    a, b, c, d, e, f, g, h = state
    w = expanded_as_told(words)
    for i in range(64):
        first = h + (ring(e, 6) ^ ring(e, 11) ^ ring(e, 25)) + ((e & f) ^ ((2 ** 32 - 1 - e) & g)) + rounds[i] + w[i]
        second = (ring(a, 2) ^ ring(a, 13) ^ ring(a, 22)) + ((a & b) ^ (a & c) ^ (b & c))
        a, b, c, d, e, f, g, h = (first + second) % 2 ** 32, a, b, c, (d + first) % 2 ** 32, e, f, g
    return tuple((old + new) % 2 ** 32 for old, new in zip(state, (a, b, c, d, e, f, g, h)))


def some_octets(count, step=7):
    return tuple((step * place + count) % 256 for place in range(count))


class Roots(unittest.TestCase):
    def test_203_first_primes(self):
        self.assertEqual(first_primes(0), [])
        self.assertEqual(first_primes(1), [2])
        self.assertEqual(first_primes(8), [2, 3, 5, 7, 11, 13, 17, 19])
        found = first_primes(64)
        self.assertEqual((len(found), found[-1]), (64, 311))
        self.assertEqual(found, [n for n in range(2, 312) if all(n % k for k in range(2, n))])

    def test_203_cube_root_next_to_cubes(self):
        self.assertEqual(cube_root(0), 0)
        for root in (1, 2, 3, 4, 9, 10, 99, 100, 2 ** 32 - 1, 2 ** 32, 2 ** 33 + 1, 10 ** 30):
            with self.subTest(root):
                self.assertEqual(cube_root(root ** 3 - 1), root - 1)
                self.assertEqual(cube_root(root ** 3), root)
                self.assertEqual(cube_root(root ** 3 + 1), root)
                self.assertEqual(cube_root((root + 1) ** 3 - 1), root)

    def test_203_cube_root_of_all_small_numbers(self):
        for number in range(2000):
            root = cube_root(number)
            self.assertTrue(root ** 3 <= number < (root + 1) ** 3, number)

    def test_203_words_are_fractions_of_roots(self):
        for number in (*range(70), 99, 100, 101, 124, 125, 126, 2 ** 32, 2 ** 32 + 1, 10 ** 20, 2 ** 64, 2 ** 100 + 1):
            for word, power in ((square_word(number), 2), (cube_word(number), 3)):
                with self.subTest(number=number, power=power):
                    self.assertEqual(word, root_by_halving(number * 2 ** (32 * power), power) % 2 ** 32)

    def test_203_words_of_squares_and_cubes_are_0(self):
        for root in (0, 1, 2, 3, 10, 2 ** 20, 2 ** 40):
            self.assertEqual(square_word(root ** 2), 0)
            self.assertEqual(cube_word(root ** 3), 0)
        self.assertEqual(square_word(2 ** 64 - 1), 2 ** 32 - 1)
        self.assertEqual(square_word(3), 0xBB67AE85)
        self.assertEqual(cube_word(2), 0x428A2F98)

    def test_203_start_and_round_words(self):
        self.assertEqual(start_words(), (
            0x6A09E667, 0xBB67AE85, 0x3C6EF372, 0xA54FF53A, 0x510E527F, 0x9B05688C, 0x1F83D9AB, 0x5BE0CD19))
        rounds = round_words()
        self.assertEqual((len(rounds), type(rounds)), (64, tuple))
        self.assertEqual(rounds[:4], (0x428A2F98, 0x71374491, 0xB5C0FBCF, 0xE9B5DBA5))
        self.assertEqual(rounds[-2:], (0xBEF9A3F7, 0xC67178F2))
        self.assertEqual(rounds, tuple(cube_word(prime) for prime in first_primes(64)))


class Steps(unittest.TestCase):
    def test_202_rings(self):
        self.assertEqual(rotated(1, 1), 0x80000000)
        self.assertEqual(rotated(0x12345678, 8), 0x78123456)
        for word in WORDS:
            self.assertEqual(rotated(word, 0), word)
            self.assertEqual(rotated(word, 32), word)
            for count in range(33):
                self.assertEqual(rotated(word, count), ring(word, count), (word, count))

    def test_204_padding_about_the_ends_of_blocks(self):
        for count in (0, 1, 2, 31, *range(54, 66), *range(118, 130), 183, 184, 200):
            octets = some_octets(count)
            found = padded(octets)
            with self.subTest(count):
                self.assertIsInstance(found, tuple)
                self.assertEqual(len(found) % 64, 0)
                self.assertEqual(len(found), 64 * ((count + 9 + 63) // 64))
                self.assertEqual(found[:count + 1], octets + (128,))
                self.assertEqual(set(found[count + 1:-8]) | {0}, {0})
                self.assertEqual(bytes(found[-8:]), (8 * count).to_bytes(8, "big"))

    def test_204_padding_of_many_octets(self):
        found = padded((5,) * 8192)
        self.assertEqual(found[-8:], (0, 0, 0, 0, 0, 1, 0, 0))
        self.assertEqual(len(found), 8192 + 64)

    def test_204_words_of_a_block(self):
        self.assertEqual(block_words((0, 0, 1, 2) * 16), (258,) * 16)
        block = tuple(range(64))
        self.assertEqual(block_words(block)[0], 0x00010203)
        self.assertEqual(block_words(block)[15], 0x3C3D3E3F)
        self.assertEqual(block_words((255,) * 64), (2 ** 32 - 1,) * 16)
        self.assertIsInstance(block_words(block), tuple)

    def test_205_expanded_words(self):
        for words in (tuple(range(16)), (0,) * 16, (2 ** 32 - 1,) * 16, tuple((WORDS * 2)[:16])):
            found = expanded(words)
            self.assertIsInstance(found, tuple)
            self.assertEqual(len(found), 64)
            self.assertEqual(found[:16], words)
            self.assertEqual(found, expanded_as_told(words))

    def test_206_the_state_behind_a_block(self):
        rounds = round_words()
        for state in (start_words(), (0,) * 8, (2 ** 32 - 1,) * 8, tuple(WORDS[:8])):
            for words in (tuple(range(16)), (2 ** 32 - 1,) * 16, tuple((WORDS * 2)[:16])):
                for other in (rounds, rounds[::-1], (0,) * 64):
                    found = compressed(state, words, other)
                    self.assertIsInstance(found, tuple)
                    self.assertEqual(found, compressed_as_told(state, words, other))

    def test_steps_change_no_arguments(self):
        state, words, rounds = list(start_words()), list(range(16)), list(round_words())
        with Unchanged(self, state, words, rounds):
            expanded(words)
            compressed(state, words, rounds)
            sha((1, 2, 3), state, rounds)


class Whole(unittest.TestCase):
    def test_207_as_the_standard_library_says(self):
        start, rounds = start_words(), round_words()
        for count in (*range(0, 8), *range(54, 67), *range(118, 131), 200, 1000):
            octets = some_octets(count, 13)
            with self.subTest(count):
                found = sha(octets, start, rounds)
                self.assertIsInstance(found, tuple)
                self.assertEqual(bytes(found), hashlib.sha256(bytes(octets)).digest())

    def test_207_one_block_from_the_words_that_are_handed_over(self):
        start, rounds = tuple(WORDS[:8]), tuple(range(64))
        state = compressed(start, block_words(padded((1, 2, 3))), rounds)
        self.assertEqual(sha((1, 2, 3), start, rounds), tuple(b"".join(word.to_bytes(4, "big") for word in state)))

    def test_207_blocks_are_taken_in_order(self):
        start, rounds = start_words(), round_words()
        octets = (1,) * 64 + (2,) * 64
        state = start
        for place in (0, 64, 128):
            state = compressed(state, block_words(padded(octets)[place:place + 64]), rounds)
        self.assertEqual(sha(octets, start, rounds), tuple(b"".join(word.to_bytes(4, "big") for word in state)))


if __name__ == "__main__":
    unittest.main()
