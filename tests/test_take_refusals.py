"""take: each refusal at its edge, the first of several, and that a refused one changes nothing."""

import unittest

from tests.helper import MOST, Case, begin, given_by, packets_of_stream, parts_in, run, send, sent, take

BEFORE = [begin(3, 2, 4), take(0, 0, [1]), take(0, 1, [2]), take(0, 2, [3]), take(1, 0, [4]), take(1, 4, [5, 0, 6]),
          take(2, 1, [7])]
AFTER = [take(1, 0, [4]), take(1, 2, [8]), take(1, 4, [1]), take(2, 1, []), take(2, 0, [9]), take(4, 4, []),
         take(4, 0, [3]), take(6, 1, [1]), send([1]), sent()]


class Refusals(Case):
    def refusal(self, group, number, content):
        """What this take answers behind BEFORE, where the next group is 1; it must change nothing if refused."""
        found = run(BEFORE + [take(group, number, content)] + AFTER)
        answer = found.pop(len(BEFORE))
        if answer[0] < 0:
            self.assertEqual(len(answer), 1)
            self.assertEqual(found, run(BEFORE + AFTER))
        return min(answer[0], 0)

    def test_group(self):
        self.assertEqual(self.refusal(2 ** 32 - 1, 0, []), -6)
        self.assertEqual(self.refusal(2 ** 32, 0, []), -1)
        self.assertEqual(self.refusal(2 ** 32 + 1, 0, []), -1)
        self.assertEqual(self.refusal(MOST, 0, []), -1)

    def test_number(self):
        self.assertEqual(self.refusal(3, 4, []), 0)
        self.assertEqual(self.refusal(3, 5, []), -1)
        self.assertEqual(self.refusal(3, 6, []), -1)
        self.assertEqual(self.refusal(3, 2 ** 32, []), -1)
        self.assertEqual(self.refusal(3, MOST, []), -1)

    def test_number_without_more(self):
        self.assertEqual([answer[0] for answer in run([begin(3, 0, 4), take(0, 2, []), take(0, 3, [])])], [0, 0, -1])

    def test_bytes_below_k(self):
        for number in (0, 1, 2):
            self.assertEqual(self.refusal(3, number, [0] * 64), 0)
            self.assertEqual(self.refusal(3, number, [0] * 65), -1)
            self.assertEqual(self.refusal(3, number, [0] * 66), -1)
            self.assertEqual(self.refusal(3, number, [0] * 100), -1)

    def test_bytes_from_k_on(self):
        for number in (3, 4):
            self.assertEqual(self.refusal(3, number, [0] * 64), 0)
            self.assertEqual(self.refusal(3, number, [0] * 65), 0)
            self.assertEqual(self.refusal(3, number, [0] * 66), 0)
            self.assertEqual(self.refusal(3, number, [0] * 67), -1)
            self.assertEqual(self.refusal(3, number, [0] * 100), -1)

    def test_a_group_before_the_next_one(self):
        for number in range(5):
            self.assertEqual(self.refusal(0, number, [1]), -5)
        self.assertEqual(self.refusal(1, 1, [1]), 0)

    def test_a_number_that_is_there(self):
        # Part 0 of group 1 is given already, and is there all the same.
        self.assertEqual(self.refusal(1, 0, [4]), -5)
        self.assertEqual(self.refusal(1, 0, []), -5)
        self.assertEqual(self.refusal(1, 4, [5, 0, 6]), -5)
        self.assertEqual(self.refusal(1, 4, [1]), -5)
        self.assertEqual(self.refusal(2, 1, [7]), -5)
        self.assertEqual(self.refusal(2, 0, [7]), 0)
        self.assertEqual(self.refusal(1, 3, []), 0)

    def test_a_group_far_behind_the_next_one(self):
        self.assertEqual(self.refusal(1 + 63, 0, []), 0)
        self.assertEqual(self.refusal(1 + 64, 0, []), -6)
        self.assertEqual(self.refusal(1 + 65, 4, []), -6)
        self.assertEqual([answer[0] for answer in run([take(64, 0, []), take(63, 0, []), take(128, 0, [])])], [-6, 64, -6])
        self.assertEqual(run([take(63, 0, []), take(127, 0, [])])[1][0], 64)

    def test_the_first_of_several(self):
        self.assertEqual(self.refusal(0, 5, []), -1)
        self.assertEqual(self.refusal(0, 0, [0] * 65), -1)
        self.assertEqual(self.refusal(0, 3, [0] * 67), -1)
        self.assertEqual(self.refusal(1, 0, [0] * 65), -1)
        self.assertEqual(self.refusal(1, 4, [0] * 67), -1)
        self.assertEqual(self.refusal(65, 5, []), -1)
        self.assertEqual(self.refusal(65, 0, [0] * 65), -1)
        self.assertEqual(self.refusal(65, 3, [0] * 67), -1)
        self.assertEqual(self.refusal(2 ** 32, 5, [0] * 100), -1)

    def test_taken_twice_is_once(self):
        packets = packets_of_stream(3, 2, 2, [[i] for i in range(12)])
        once = given_by(3, 2, 2, packets)
        twice = given_by(3, 2, 2, [packet for packet in packets for _ in range(2)])
        # The packets from k on of a group that is given come too late the first time too.
        self.assertEqual(twice[::2], once)
        self.assertEqual(twice[1::2], [-5] * len(packets))

    def test_the_first_bytes_stay(self):
        found = run([begin(2, 0, 3), take(0, 1, [1]), take(0, 1, [2]), take(0, 0, [])])
        self.assertEqual(found[2], [-5])
        self.assertEqual(parts_in(found[3]), [[], [1]])


if __name__ == "__main__":
    unittest.main()
