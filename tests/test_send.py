"""send and sent: the packets that parts make, and what the sender is at."""

import random
import unittest

from lossline.field import Field
from lossline.groups import GroupCode
from lossline.sender import Sender
from tests.helper import Case, Model, begin, bytes_of, is_word, packets_in, product, row_of, run, send, sent, take

LAST_GROUP = 2 ** 32 - 1


class Send(Case):
    def test_in_the_midst_of_a_group(self):
        self.assertEqual(run([begin(3, 2, 1), send([5, 6]), send([])])[1:], [[1, 4, 0, 0, 5, 6], [1, 2, 0, 1]])

    def test_written_out(self):
        # With k 1 and r 1 the one sum says that both rows are the same.
        self.assertEqual(run([begin(1, 1, 1), send([9])])[1], [2, 3, 0, 0, 9, 5, 0, 1, 1, 0, 9])
        # With k 1 and r 2: c0 + c1 + c2 = 0 and c0 + 3 c1 + 5 c2 = 0, so c1 = 4 c0 / 6 and c2 = 2 c0 / 6.
        packets = packets_in(run([begin(1, 2, 1), send([1])])[1])
        self.assertEqual([packet[:2] for packet in packets], [(0, 0), (0, 1), (0, 2)])
        self.assertEqual(product(6, packets[1][2][0]), 4)
        self.assertEqual(product(6, packets[2][2][0]), 2)

    def test_whole_without_more(self):
        for k in (1, 2, 32):
            with self.subTest(k=k):
                found = run([begin(k, 0, 1)] + [send([i]) for i in range(2 * k)])[1:]
                self.assertEqual(found, [[1, 3, i // k, i % k, i] for i in range(2 * k)])

    def test_whole_with_more(self):
        for k in (1, 2, 32):
            for r in (1, 2, 16):
                with self.subTest(k=k, r=r):
                    found = run([begin(k, r, 1)] + [send([i]) for i in range(2 * k)])[1:]
                    for i, answer in enumerate(found):
                        numbers = [i % k] + (list(range(k, k + r)) if i % k == k - 1 else [])
                        packets = packets_in(answer)
                        self.assertEqual([packet[:2] for packet in packets], [(i // k, number) for number in numbers])
                        self.assertEqual(packets[0][2], [i])
                        self.assertEqual([len(packet[2]) for packet in packets[1:]], [3] * (len(numbers) - 1))

    def test_lengths(self):
        for lengths in [(0,), (1,), (2,), (64,), (0, 0), (0, 64), (64, 0), (1, 2), (2, 1), (63, 64, 62), (5, 5, 0, 1)]:
            with self.subTest(lengths=lengths):
                parts = [bytes_of(length, 11 * i) for i, length in enumerate(lengths)]
                found = run([begin(len(parts), 3, 1)] + [send(part) for part in parts])[1:]
                for answer, part in zip(found, parts):
                    self.assertEqual(packets_in(answer)[0][2], part)
                self.assertEqual([len(packet[2]) for packet in packets_in(found[-1])[1:]], [max(lengths) + 2] * 3)

    def test_the_sums_are_0(self):
        draw = random.Random(1)
        cuts = [(k, r) for k in (1, 2, 3, 7, 32) for r in (1, 2, 3, 16)]
        for k, r in cuts:
            with self.subTest(k=k, r=r):
                parts = [[draw.randrange(256) for _ in range(draw.choice([0, 1, 2, 9, 64]))] for _ in range(k)]
                found = run([begin(k, r, 1)] + [send(part) for part in parts])[1:]
                more = [packet[2] for packet in packets_in(found[-1])[1:]]
                length = max(map(len, parts)) + 2
                rows = [row_of(part, length) for part in parts] + more
                self.assertEqual({len(row) for row in rows}, {length})
                for place in range(length):
                    self.assertTrue(is_word([row[place] for row in rows], k))

    def test_each_group_by_itself(self):
        parts = [[1, 2, 3], [4], [], [9]]
        found = run([begin(2, 1, 1)] + [send(part) for part in parts])[1:]
        first = packets_in(found[1])[1]
        second = packets_in(found[3])[1]
        self.assertEqual(first, (0, 2, [3 ^ 1, 0, 1 ^ 4, 2, 3]))
        self.assertEqual(second, (1, 2, [0 ^ 1, 0, 9]))

    def test_above_64_bytes(self):
        for length in (65, 66, 100):
            self.assertEqual(run([send(bytes_of(length))]), [[-1]])
        self.assertEqual(run([send(bytes_of(64))])[0][0], 1)

    def test_refused_changes_nothing(self):
        before = [begin(3, 2, 1), send([1]), send([2, 3])]
        after = [sent(), send([4]), sent(), take(0, 0, [1])]
        found = run(before + [send(bytes_of(65))] + after)
        self.assertEqual(found.pop(len(before)), [-1])
        self.assertEqual(found, run(before + after))

    def test_take_does_not_touch_the_sender(self):
        before = [begin(2, 1, 1), send([1])]
        after = [sent(), send([2])]
        found = run(before + [take(5, 0, [8])] + after)
        self.assertEqual(found[3:], run(before + after)[2:])

    def test_like_the_model(self):
        draw = random.Random(2)
        for turn in range(40):
            k, r = draw.randint(1, 6), draw.randint(0, 6)
            parts = [[draw.randrange(256) for _ in range(draw.randint(0, 12))] for _ in range(15)]
            model = Model()
            wanted = [model.begin(k, r, 1)] + [model.send(part) for part in parts]
            self.assertEqual(run([begin(k, r, 1)] + [send(part) for part in parts]), wanted)


class LastGroup(Case):
    """No list of calls is long enough to come here, so the sender is asked itself."""

    def sender_at(self, group):
        sender = Sender(GroupCode(Field(), 2, 1))
        sender.group_now = group
        return sender

    def test_the_last_group_can_be_sent(self):
        sender = self.sender_at(LAST_GROUP)
        self.assertEqual(sender.refusal_or_zero([]), 0)
        self.assertEqual(sender.send([7]), [[LAST_GROUP, 0, 7]])
        self.assertEqual(sender.refusal_or_zero([]), 0)
        self.assertEqual(sender.send([8])[1:], [[LAST_GROUP, 2, 0, 0, 15]])

    def test_the_one_behind_it_can_not(self):
        sender = self.sender_at(LAST_GROUP + 1)
        self.assertEqual(sender.refusal_or_zero([]), -6)
        self.assertEqual(sender.refusal_or_zero([0] * 64), -6)
        self.assertEqual(sender.refusal_or_zero([0] * 65), -1)


class Sent(Case):
    def test_at_the_beginning(self):
        self.assertEqual(run([sent()]), [[0, 2, 0, 0]])
        self.assertEqual(run([begin(4, 1, 1), sent()])[1], [0, 2, 0, 0])

    def test_along_the_way(self):
        calls = [begin(3, 1, 1)]
        for i in range(7):
            calls += [send([i]), sent()]
        found = run(calls)[2::2]
        self.assertEqual(found, [[0, 2, (i + 1) // 3, (i + 1) % 3] for i in range(7)])

    def test_with_one_part_a_group(self):
        self.assertEqual(run([send([]), sent(), send([1]), sent()])[1::2], [[0, 2, 1, 0], [0, 2, 2, 0]])

    def test_after_begin(self):
        found = run([begin(2, 0, 1), send([]), send([]), send([]), sent(), begin(2, 0, 1), sent()])
        self.assertEqual([found[4], found[6]], [[0, 2, 1, 1], [0, 2, 0, 0]])

    def test_changes_nothing(self):
        self.assertEqual(run([begin(2, 0, 1), send([1]), sent(), sent(), send([2])])[2:],
                         [[0, 2, 0, 1], [0, 2, 0, 1], [1, 3, 0, 1, 2]])


if __name__ == "__main__":
    unittest.main()
