"""group: the packets from k on of a group of such parts."""

import random
import unittest

from tests.helper import (Case, all_given_by, begin, bytes_of, group, lists_behind, made_group, packets_in, row_of,
                          run, send, sent, syndrome, take, wants)

CUTS = [(k, r) for k in (1, 2, 3, 32) for r in (0, 1, 2, 16)]
LENGTHS = [(0,), (1,), (2,), (64,), (0, 0), (64, 64), (0, 64), (64, 0), (1, 2), (2, 1), (0, 1, 2, 64), (63, 64, 62)]


def packets_made(k, r, parts):
    """The packets that group answers for these parts."""
    answer = run([begin(k, r, 1), group(parts)])[1]
    assert answer[0] == 0, "it is refused"
    return lists_behind(answer)


def packets_sent(k, r, parts):
    """The bytes of the packets from k on that sending these parts makes."""
    answer = run([begin(k, r, 1)] + [send(part) for part in parts])[-1]
    return [content for _, _, content in packets_in(answer)[1:]]


def drawn_parts(draw, k):
    return [[draw.randrange(256) for _ in range(draw.choice([0, 1, 2, 9, 64]))] for _ in range(k)]


class Group(Case):
    def test_on_a_new_object(self):
        self.assertEqual(run([group([[]])]), [[0]])
        self.assertEqual(run([group([[1, 2, 3]])]), [[0]])
        self.assertEqual(run([group([]), group([[], []])]), [[-1], [-1]])

    def test_written_out(self):
        # With r 1 the one sum says that all rows and the packet add up to 0.
        self.assertEqual(run([begin(1, 1, 1), group([[9]])])[1], [0, 3, 1, 0, 9])
        self.assertEqual(run([begin(2, 1, 1), group([[1, 2, 3], [4]])])[1], [0, 5, 3 ^ 1, 0, 1 ^ 4, 2, 3])
        self.assertEqual(run([begin(2, 1, 1), group([[], []])])[1], [0, 2, 0, 0])

    def test_without_more(self):
        for k in (1, 2, 32):
            self.assertEqual(run([begin(k, 0, 1), group([[5]] * k)])[1], [0])

    def test_how_many_and_how_long(self):
        for k, r in CUTS:
            for length in (0, 1, 64):
                with self.subTest(k=k, r=r, length=length):
                    parts = [[]] * (k - 1) + [bytes_of(length)]
                    self.assertEqual([len(packet) for packet in packets_made(k, r, parts)], [length + 2] * r)

    def test_like_send(self):
        draw = random.Random(41)
        for k, r in CUTS:
            with self.subTest(k=k, r=r):
                parts = drawn_parts(draw, k)
                self.assertEqual(packets_made(k, r, parts), packets_sent(k, r, parts))

    def test_lengths_like_send(self):
        for lengths in LENGTHS:
            with self.subTest(lengths=lengths):
                parts = [bytes_of(length, 11 * i) for i, length in enumerate(lengths)]
                found = packets_made(len(parts), 3, parts)
                self.assertEqual([len(packet) for packet in found], [max(lengths) + 2] * 3)
                self.assertEqual(found, packets_sent(len(parts), 3, parts))

    def test_the_sums_are_0(self):
        draw = random.Random(42)
        for k, r in CUTS:
            parts = drawn_parts(draw, k)
            length = max(map(len, parts)) + 2
            rows = [row_of(part, length) for part in parts] + packets_made(k, r, parts)
            self.assertEqual({len(row) for row in rows}, {length})
            for place in range(length):
                column = [row[place] for row in rows]
                for j in range(r):
                    self.assertEqual(syndrome(column, j), 0, (k, r, place, j))

    def test_like_elimination_over_the_sums(self):
        draw = random.Random(43)
        for k, r in CUTS:
            parts = [[draw.randrange(256) for _ in range(draw.randint(0, 6))] for _ in range(k)]
            rows = [row_of(part, max(map(len, parts)) + 2) for part in parts]
            self.assertEqual(packets_made(k, r, parts), list(made_group(k, r, rows).values()))

    def test_p1_the_group_is_had_back_of_them(self):
        draw = random.Random(44)
        for k, r in [(1, 1), (3, 3), (16, 16), (5, 16)]:
            parts = drawn_parts(draw, k)
            packets = [(0, k + place, content) for place, content in enumerate(packets_made(k, r, parts))]
            self.assertEqual(all_given_by(k, r, 1, draw.sample(packets, k)), parts)

    def test_each_by_itself(self):
        found = run([begin(2, 1, 1), group([[1], [2]]), group([[3], [4, 4]]), group([[1], [2]])])
        self.assertEqual(found[1], found[3])
        self.assertEqual(found[2], [0, 4, 1 ^ 2, 0, 3 ^ 4, 4])


class Refused(Case):
    def test_not_k_parts(self):
        for k in (1, 2, 31, 32):
            for r in (0, 1, 16):
                for count in {0, 1, k - 1, k, k + 1, 32, 33, 40}:
                    with self.subTest(k=k, r=r, count=count):
                        answer = run([begin(k, r, 1), group([[7]] * count)])[1]
                        self.assertEqual(answer[0], 0 if count == k else -1)
                        self.assertEqual(len(answer), 1 + 4 * r if count == k else 1)

    def test_a_part_above_64_bytes(self):
        for k, r in [(1, 0), (1, 2), (3, 0), (3, 2)]:
            for place in range(k):
                for length, refused in [(64, False), (65, True), (66, True), (100, True)]:
                    with self.subTest(k=k, r=r, place=place, length=length):
                        parts = [[1]] * k
                        parts[place] = bytes_of(length)
                        answer = run([begin(k, r, 1), group(parts)])[1]
                        self.assertEqual(answer == [-1], refused)

    def test_both(self):
        self.assertEqual(run([begin(2, 1, 1), group([[0] * 65])])[1], [-1])
        self.assertEqual(run([group([[0] * 100] * 40)]), [[-1]])

    def test_read_whole_all_the_same(self):
        found = run([begin(2, 1, 1), group([[0] * 100] * 40), sent(), group([]), wants()])
        self.assertEqual(found[1:], [[-1], [0, 2, 0, 0], [-1], [0, 3, 0, 0, 0, 0]])


class ChangesNothing(Case):
    def test_sender_and_queue(self):
        before = [begin(2, 2, 3), send([1]), send([2]), send([3]), take(0, 0, [1]), take(0, 3, [1, 2]), take(2, 1, [5])]
        after = [sent(), wants(), send([4]), take(0, 1, [2]), take(1, 3, []), sent(), wants()]
        for parts in [[[1], [2]], [[], []], [[0] * 64, [9] * 64], [[3], [4]], [], [[1]], [[1]] * 3, [[0] * 65, []],
                      [[1]] * 40]:
            with self.subTest(parts=parts):
                found = run(before + [sent(), wants(), group(parts), sent(), wants()] + after)
                start = len(before)
                self.assertEqual(found[start:start + 2], found[start + 3:start + 5])
                self.assertEqual(found[:start] + found[start + 5:], run(before + after))

    def test_follows_begin(self):
        found = run([group([[1]]), begin(2, 1, 1), group([[1]]), group([[1], [1]]), begin(0, 1, 1), group([[1], [1]]),
                     begin(1, 0, 1), group([[1]])])
        self.assertEqual(found, [[0], [0], [-1], [0, 3, 0, 0, 0], [-1], [0, 3, 0, 0, 0], [0], [0]])


if __name__ == "__main__":
    unittest.main()
