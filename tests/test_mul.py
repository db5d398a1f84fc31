"""mul: the product of two bytes, as polynomials modulo 11BH."""

import random
import unittest

from tests.helper import Case, begin, mul, product, run, send, sent, take, wants


def products_of(pairs):
    """The products of these pairs, asked in lists of at most 300 calls."""
    found = []
    for start in range(0, len(pairs), 300):
        answers = run([mul(a, b) for a, b in pairs[start:start + 300]])
        assert all(len(answer) == 1 for answer in answers), "not the number alone"
        found += [answer[0] for answer in answers]
    return found


class Mul(Case):
    @classmethod
    def setUpClass(cls):
        flat = products_of([(a, b) for a in range(256) for b in range(256)])
        cls.table = [flat[256 * a:256 * a + 256] for a in range(256)]

    def test_written_out(self):
        self.assertEqual(run([mul(3, 7), mul(0, 0), mul(1, 1)]), [[9], [0], [1]])

    def test_by_0(self):
        self.assertEqual(self.table[0], [0] * 256)
        self.assertEqual([row[0] for row in self.table], [0] * 256)

    def test_by_1(self):
        self.assertEqual(self.table[1], list(range(256)))
        self.assertEqual([row[1] for row in self.table], list(range(256)))

    def test_without_carrying_over(self):
        for a, b, wanted in [(2, 2, 4), (2, 127, 254), (3, 3, 5), (16, 8, 128), (15, 15, 85), (127, 2, 254), (5, 17, 85)]:
            self.assertEqual(self.table[a][b], wanted, (a, b))

    def test_carrying_over(self):
        for a, b, wanted in [(2, 128, 0x1B), (128, 2, 0x1B), (16, 16, 0x1B), (3, 255, 0x1A), (0x57, 0x83, 0xC1),
                             (0x57, 0x13, 0xFE), (0x53, 0xCA, 1), (128, 128, 0x9A), (2, 0x8D, 1)]:
            self.assertEqual(self.table[a][b], wanted, (a, b))

    def test_255_by_255(self):
        # All of x^0 to x^7 squared are x^0, x^2 to x^14; those from x^8 on come to 27, 108, 171 and 154.
        self.assertEqual(1 ^ 4 ^ 16 ^ 64 ^ 27 ^ 108 ^ 171 ^ 154, 19)
        self.assertEqual(run([mul(255, 255)]), [[19]])

    def test_each_but_0_has_one_that_makes_1_with_it(self):
        for a in range(1, 256):
            self.assertEqual(self.table[a].count(1), 1, a)
            self.assertEqual(sorted(self.table[a]), list(range(256)), a)

    def test_both_ways_round(self):
        self.assertEqual(self.table, [list(column) for column in zip(*self.table)])

    def test_adds_up(self):
        draw = random.Random(31)
        for _ in range(2000):
            a, b, c = (draw.randrange(256) for _ in range(3))
            self.assertEqual(self.table[a][b ^ c], self.table[a][b] ^ self.table[a][c])
            self.assertEqual(self.table[self.table[a][b]][c], self.table[a][self.table[b][c]])

    def test_all_pairs_as_the_document_tells(self):
        self.assertEqual(self.table, [[product(a, b) for b in range(256)] for a in range(256)])

    def test_changes_nothing(self):
        before = [begin(2, 1, 2), send([1]), take(0, 2, [1]), take(1, 0, [])]
        after = [sent(), wants(), send([2]), take(0, 1, [])]
        found = run(before + [mul(7, 9), mul(0, 255)] + after)
        self.assertEqual(found[:4] + found[6:], run(before + after))

    def test_the_same_however_the_stream_is_cut(self):
        found = run([mul(77, 200), begin(32, 16, 16), mul(77, 200), begin(0, 0, 0), mul(77, 200)])
        self.assertEqual([found[0], found[2], found[4]], [[product(77, 200)]] * 3)


if __name__ == "__main__":
    unittest.main()
