"""take: when a group is had back of some of its packets, and when it isn't."""

import itertools
import random
import unittest

from tests.helper import (INVERSES, LOST, PRODUCTS, Case, Model, all_given_by, begin, given_by, made_group,
                          packets_of_stream, row_of, run, take)


class AnyKPackets(Case):
    """P1: any k packets of a group tell it."""

    def test_every_choice(self):
        for k, r in itertools.product((1, 2, 3, 4), (0, 1, 2, 3, 4)):
            parts = [[16 * i + j for j in range((3 * i + k) % 5)] for i in range(k)]
            packets = packets_of_stream(k, r, 1, parts)
            self.assertEqual(len(packets), k + r)
            for choice in itertools.combinations(packets, k):
                with self.subTest(k=k, r=r, choice=choice):
                    self.assertEqual(all_given_by(k, r, 1, choice), parts)
                    self.assertEqual(all_given_by(k, r, 1, choice[::-1]), parts)

    def test_fewer_do_not(self):
        packets = packets_of_stream(3, 3, 1, [[1], [2], [3]])
        for choice in itertools.combinations(packets[1:], 2):
            self.assertEqual(all_given_by(3, 3, 1, choice), [])

    def test_large_groups(self):
        draw = random.Random(3)
        for k, r in [(32, 16), (32, 1), (17, 16), (1, 16)]:
            parts = [[draw.randrange(256) for _ in range(draw.choice([0, 1, 2, 20, 64]))] for _ in range(k)]
            packets = packets_of_stream(k, r, 1, parts)
            choices = [packets[-k:], packets[::-1][:k]] + [draw.sample(packets, k) for _ in range(10)]
            for choice in choices:
                with self.subTest(k=k, r=r):
                    self.assertEqual(all_given_by(k, r, 1, choice), parts)

    def test_lengths(self):
        for lengths in [(0, 0), (0, 64), (64, 64), (1, 0), (2, 1), (63, 64)]:
            parts = [[7 + i] * length for i, length in enumerate(lengths)]
            packets = packets_of_stream(2, 2, 1, parts)
            for choice in itertools.combinations(packets, 2):
                with self.subTest(lengths=lengths):
                    self.assertEqual(all_given_by(2, 2, 1, choice), parts)

    def test_zeros_at_a_part_s_end_are_its_own(self):
        parts = [[0, 0, 0], [5, 0], [0]]
        packets = packets_of_stream(3, 3, 1, parts)
        self.assertEqual(all_given_by(3, 3, 1, packets[3:]), parts)

    def test_with_the_packet_that_makes_it_k(self):
        packets = packets_of_stream(3, 2, 1, [[1], [2, 2], [3]])
        found = given_by(3, 2, 1, [packets[4], packets[2], packets[3]])
        self.assertEqual(found, [[], [], [[1], [2, 2], [3]]])


class NotHadBack(Case):
    def test_different_lengths_from_k_on(self):
        packets = packets_of_stream(2, 3, 1, [[1, 2], [3]])
        longer = (0, 3, packets[3][2] + [0])
        shorter = (0, 3, packets[3][2][:-1])
        for wrong in (longer, shorter):
            self.assertEqual(given_by(2, 3, 1, [packets[2], wrong]), [[], []])
            self.assertEqual(given_by(2, 3, 1, [wrong, packets[2]]), [[], []])
            # Only the first k by number are looked at: those of one length among them hide the wrong one.
            wrong_last = (0, 4, wrong[2])
            self.assertEqual(all_given_by(2, 3, 1, [wrong_last, packets[2], packets[3]]), [[1, 2], [3]])
            self.assertEqual(all_given_by(2, 3, 1, [packets[2], wrong, packets[4]]), [])

    def test_the_first_k_by_number_are_looked_at(self):
        packets = packets_of_stream(2, 2, 1, [[1], [2]])
        wrong = (0, 2, [9, 9, 9])
        # Packets 1 and 3 would do, but the wrong 2 stands ahead of 3.
        self.assertEqual(all_given_by(2, 2, 1, [wrong, packets[3], packets[1]]), [])
        # Once part 0 is there too, all of 0 to k - 1 are.
        self.assertEqual(all_given_by(2, 2, 1, [wrong, packets[3], packets[1], packets[0]]), [[1], [2]])
        # The wrong 3 is not looked at behind 1 and 2.
        self.assertEqual(all_given_by(2, 2, 1, [(0, 3, [9] * 5), packets[2], packets[1]]), [[1], [2]])

    def test_a_part_longer_than_l_less_2(self):
        packets = packets_of_stream(2, 1, 1, [[1, 2], [3]])
        more = packets[2]
        self.assertEqual(len(more[2]), 4)
        self.assertEqual(all_given_by(2, 1, 1, [(0, 1, [3]), more]), [[1, 2], [3]])
        self.assertEqual(all_given_by(2, 1, 1, [(0, 1, [3, 0, 0]), more]), [])
        self.assertEqual(all_given_by(2, 1, 1, [more, (0, 1, [3, 0, 0])]), [])
        # A part of L - 2 bytes fits. With r 1 the rows and packet k add up to 0, so this row 0 is all zeros.
        fits = (0, 2, [2, 0, 4, 5])
        self.assertEqual(all_given_by(2, 1, 1, [(0, 1, [4, 5]), fits]), [[], [4, 5]])
        self.assertEqual(all_given_by(2, 1, 1, [(0, 1, [4, 5, 0]), fits]), [])

    def test_a_part_longer_than_l_less_2_and_short_packets(self):
        for content in ([], [0], [1]):
            self.assertEqual(all_given_by(2, 1, 1, [(0, 1, []), (0, 2, content)]), [])
        self.assertEqual(all_given_by(2, 1, 1, [(0, 1, []), (0, 2, [0, 0])]), [[], []])

    def test_rows_without_room_for_a_length(self):
        self.assertEqual(all_given_by(1, 1, 1, [(0, 1, [])]), [])
        self.assertEqual(all_given_by(1, 1, 1, [(0, 1, [0])]), [])
        self.assertEqual(all_given_by(1, 1, 1, [(0, 1, [0, 0])]), [[]])

    def test_a_row_that_is_no_part_s_row(self):
        # With k 1 and r 1 both rows are the same, so packet 1 is the row itself.
        for row in ([65] + [0] * 65, [1, 1] + [0] * 64, [0, 1] + [0] * 64, [1, 0], [2, 0, 7], [64, 0] + [1] * 63,
                    [0, 0, 1], [1, 0, 7, 1], [1, 0, 7, 0, 0, 200], [255, 255], [0, 255, 0], [250, 1] + [0] * 64,
                    [255, 1] + [0] * 64, [194, 1] + [0] * 64):
            with self.subTest(row=row):
                self.assertEqual(given_by(1, 1, 1, [(0, 1, row)]), [[]])
                # The group is still there: its own part can come.
                self.assertEqual(given_by(1, 1, 1, [(0, 1, row), (0, 0, [5])]), [[], [[5]]])

    def test_a_row_that_is_a_part_s_row(self):
        for row, part in [([64, 0] + [1] * 64, [1] * 64), ([0, 0], []), ([1, 0, 7], [7]), ([1, 0, 0], [0]),
                          ([0, 0] + [0] * 64, []), ([2, 0, 7, 0, 0, 0], [7, 0])]:
            with self.subTest(row=row):
                self.assertEqual(given_by(1, 1, 1, [(0, 1, row)]), [[part]])

    def test_each_row_is_looked_at(self):
        good = [2, 0, 7, 8]
        for bad in ([3, 0, 7, 8], [1, 0, 7, 8], [2, 1, 7, 8]):
            for place in range(3):
                rows = [good] * 3
                rows[place] = bad
                packets = [(0, number, content) for number, content in made_group(3, 3, rows).items()]
                self.assertEqual(all_given_by(3, 3, 1, packets), [])
        packets = [(0, number, content) for number, content in made_group(3, 3, [good] * 3).items()]
        self.assertEqual(all_given_by(3, 3, 1, packets), [[7, 8]] * 3)

    def test_l_may_be_longer_than_its_parts_ask_for(self):
        rows = [[1, 0, 7, 0, 0], [0, 0, 0, 0, 0]]
        packets = [(0, number, content) for number, content in made_group(2, 2, rows).items()]
        self.assertEqual(all_given_by(2, 2, 1, packets), [[7], []])

    def test_lost_then_if_it_can_not_be_had_back(self):
        found = given_by(2, 1, 1, [(0, 1, [1]), (0, 2, [9, 9, 9]), (1, 1, [4])])
        self.assertEqual(found, [[], [], [LOST, [1]]])


class LikeTheModel(Case):
    def test_any_packets(self):
        draw = random.Random(4)
        had = 0
        for _ in range(600):
            k, r = draw.randint(1, 4), draw.randint(0, 4)
            length = draw.randint(2, 5)
            parts = [[draw.randrange(256) for _ in range(draw.randint(0, length - 2))] for _ in range(k)]
            packets = dict(enumerate(parts))
            packets.update(made_group(k, r, [row_of(part, length) for part in parts]))
            if draw.random() < 0.5:
                number = draw.randrange(k + r)
                content = packets[number]
                packets[number] = draw.choice([content + [0], content[:-1], [1] + content[1:], [0] * len(content)])
            order = draw.sample(sorted(packets), draw.randint(1, k + r))
            model = Model()
            wanted = [model.begin(k, r, 16)] + [model.take(0, number, packets[number]) for number in order]
            with self.subTest(k=k, r=r, packets=packets, order=order):
                self.assertEqual(run([begin(k, r, 16)] + [take(0, number, packets[number]) for number in order]), wanted)
            had += model.following
        self.assertGreater(had, 100)

    def test_the_tables_of_the_tests_are_right(self):
        self.assertEqual(PRODUCTS[0x57][0x83], 0xC1)
        self.assertEqual(PRODUCTS[0x57][0x13], 0xFE)
        self.assertTrue(all(PRODUCTS[a][INVERSES[a]] == 1 for a in range(1, 256)))


if __name__ == "__main__":
    unittest.main()
