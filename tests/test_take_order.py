"""take: what is given, in which order, and what is lost."""

import random
import unittest

from lossline.field import Field
from lossline.groups import GroupCode
from lossline.packet_queue import PacketQueue
from tests.helper import LOST, Case, all_given_by, begin, given_by, packets_of_stream, run, take


def parts_of_stream(draw, count, longest):
    return [[draw.randrange(256) for _ in range(draw.randint(0, longest))] for _ in range(count)]


class InOrder(Case):
    """P4: what comes in order is given at once."""

    def test_each_part_with_its_packet(self):
        for k, r, w in [(1, 0, 1), (1, 2, 1), (3, 0, 1), (3, 2, 4), (32, 0, 16), (5, 16, 2)]:
            with self.subTest(cut=(k, r, w)):
                parts = [[i, i + 1][:i % 3] for i in range(2 * k + 1)]
                packets = packets_of_stream(k, r, w, parts)
                found = given_by(k, r, w, packets)
                for (group, number, content), given in zip(packets, found):
                    self.assertEqual(given, [content] if number < k else -5)

    def test_written_out(self):
        self.assertEqual(run([begin(2, 0, 1), take(0, 0, [5]), take(0, 1, []), take(1, 0, [6, 7])])[1:],
                         [[1, 2, 0, 5], [1, 1, 0], [1, 3, 0, 6, 7]])

    def test_nothing_to_give(self):
        self.assertEqual(run([begin(2, 1, 1), take(0, 1, [5])])[1], [0])


class Lost(Case):
    def test_written_out(self):
        self.assertEqual(run([begin(3, 0, 1), take(0, 1, [5]), take(1, 0, [6])])[1:],
                         [[0], [4, 1, 1, 2, 0, 5, 1, 1, 2, 0, 6]])

    def test_the_edge_of_w(self):
        for w in range(1, 17):
            with self.subTest(w=w):
                found = given_by(2, 1, w, [(w - 1, 2, [0, 0]), (w, 2, [0, 0]), (0, 0, [])])
                self.assertEqual(found, [[], [LOST, LOST], -5])

    def test_counted_from_the_next_group(self):
        # Groups 0 and 1 are given, so that group 2 is the next; 4 is two behind it, 5 three.
        packets = [(0, 0, [0]), (1, 0, [1]), (4, 0, [4]), (5, 0, [5])]
        self.assertEqual(given_by(1, 0, 3, packets), [[[0]], [[1]], [], [LOST]])

    def test_several_groups_by_one_call(self):
        found = given_by(2, 1, 2, [(1, 1, [1]), (5, 0, [5]), (8, 1, [8])])
        self.assertEqual(found, [[], [LOST, LOST, LOST, [1]] + [LOST] * 4, [LOST, LOST, [5], LOST, LOST, LOST]])

    def test_group_by_group_lost_and_had_back(self):
        packets = packets_of_stream(2, 1, 2, [[i] for i in range(10)])
        by_place = {packet[:2]: packet for packet in packets}
        came = [by_place[place] for place in [(1, 2), (1, 1), (2, 1), (3, 1)]]
        # Group 3 makes group 0 lost and 1 be had back; then 2 is one ahead of 3 and waits.
        self.assertEqual(given_by(2, 1, 2, came), [[], [], [LOST, LOST, [2], [3]], []])
        # The one part that was missing of group 2 lets its two parts go.
        self.assertEqual(given_by(2, 1, 2, came + [by_place[2, 0]])[-1], [[4], [5]])
        # Group 4 makes group 2 be lost, but for what came of it; 3 waits.
        self.assertEqual(given_by(2, 1, 2, came + [by_place[4, 0]])[-1], [LOST, [5]])

    def test_63_groups_by_one_call(self):
        found = given_by(2, 0, 16, [(63, 1, [1])])
        self.assertEqual(found, [[LOST] * (2 * 48)])
        found = given_by(1, 0, 1, [(63, 0, [1])])
        self.assertEqual(found, [[LOST] * 63 + [[1]]])

    def test_a_later_group_that_is_whole_goes_on_at_once(self):
        packets = [(1, 0, [1]), (2, 0, [2]), (4, 0, [4]), (0, 0, [0])]
        self.assertEqual(given_by(1, 0, 16, packets), [[], [], [], [[0], [1], [2]]])

    def test_an_earlier_packet_does_not_set_the_latest_group_back(self):
        # Group 2 came; group 1 behind it does not make the queue wait longer.
        found = given_by(2, 0, 3, [(2, 1, [2]), (1, 1, [1]), (0, 1, [0]), (0, 0, []), (4, 0, [])])
        self.assertEqual(found, [[], [], [], [[], [0]], [LOST, [1]]])


class PartsAheadOfTheGroup(Case):
    """Parts that are given while their group is not had back yet."""

    def test_given_once(self):
        packets = packets_of_stream(4, 2, 2, [[1], [2], [3], [4]])
        order = [packets[0], packets[1], packets[4], packets[5]]
        self.assertEqual(given_by(4, 2, 2, order), [[[1]], [[2]], [], [[3], [4]]])

    def test_given_as_long_as_they_came(self):
        packets = packets_of_stream(5, 1, 2, [[1], [2], [3], [4], [5]])
        order = [packets[i] for i in (1, 3, 0, 2, 4)]
        self.assertEqual(given_by(5, 1, 2, order), [[], [], [[1], [2]], [[3], [4]], [[5]]])

    def test_the_last_one_of_a_group_then_the_first_of_the_next(self):
        packets = packets_of_stream(2, 0, 2, [[1], [2], [3], [4]])
        order = [packets[i] for i in (0, 2, 1, 3)]
        self.assertEqual(given_by(2, 0, 2, order), [[[1]], [], [[2], [3]], [[4]]])

    def test_lost_from_the_next_one_on(self):
        found = given_by(4, 0, 1, [(0, 0, [1]), (0, 1, [2]), (0, 3, [4]), (1, 0, [5])])
        self.assertEqual(found, [[[1]], [[2]], [], [LOST, [4], [5]]])

    def test_of_the_next_group_once_it_is_next(self):
        found = given_by(3, 0, 1, [(0, 1, []), (1, 0, [5]), (1, 1, [6]), (1, 2, [7])])
        self.assertEqual(found, [[], [LOST, [], LOST, [5]], [[6]], [[7]]])

    def test_packets_from_k_on_are_no_parts(self):
        found = given_by(2, 3, 4, [(0, 4, [0, 0]), (0, 0, [1])])
        self.assertEqual(found[0], [])
        found = given_by(2, 1, 1, [(0, 2, [9, 9]), (1, 0, [])])
        self.assertEqual(found[1], [LOST, LOST, []])


def with_doubles(draw, packets):
    found = list(packets)
    for _ in range(len(packets) // 3):
        found.insert(draw.randint(0, len(found)), draw.choice(packets))
    return found


class WhateverComes(Case):
    def check_order(self, parts, given):
        """P2: the parts in order, each it or lost."""
        self.assertLessEqual(len(given), len(parts))
        for part, wanted in zip(given, parts):
            if part is not LOST:
                self.assertEqual(part, wanted)

    def test_p2(self):
        draw = random.Random(5)
        lost = 0
        for _ in range(150):
            k, r, w = draw.randint(1, 5), draw.randint(0, 4), draw.randint(1, 5)
            parts = parts_of_stream(draw, k * 12, 5)
            packets = packets_of_stream(k, r, w, parts)
            kept = [packet for packet in packets if draw.random() < 0.8]
            spread = draw.choice([1, 4, 12])
            kept.sort(key=lambda packet: packet[0] + spread * draw.random())
            came = with_doubles(draw, kept) if kept else []
            given = all_given_by(k, r, w, came)
            self.check_order(parts, given)
            lost += given.count(LOST)
        self.assertGreater(lost, 100)

    def test_p3(self):
        draw = random.Random(6)
        for _ in range(120):
            k, r, w = draw.randint(1, 5), draw.randint(0, 4), draw.randint(1, 6)
            parts = parts_of_stream(draw, k * 10, 6)
            packets = packets_of_stream(k, r, w, parts)
            kept = []
            for group in range(10):
                kept += draw.sample([packet for packet in packets if packet[0] == group], k)
            # All of a group lie ahead of all that is w groups later.
            kept.sort(key=lambda packet: packet[0] + w * draw.random())
            with self.subTest(k=k, r=r, w=w):
                self.assertEqual(all_given_by(k, r, w, kept), parts)
                again = []
                for place, packet in enumerate(kept):
                    again += [packet] + [draw.choice(kept[:place + 1])] * draw.randint(0, 1)
                self.assertEqual(all_given_by(k, r, w, again), parts)

    def test_p3_at_its_edge(self):
        # Of each group the k-th packet comes right ahead of the first one of w groups later.
        k, r, w = 2, 2, 3
        parts = [[i] for i in range(2 * 8)]
        packets = packets_of_stream(k, r, w, parts)
        by_place = {packet[:2]: packet for packet in packets}
        order = [by_place[group, 3] for group in range(w)]
        for group in range(w, 8):
            order += [by_place[group - w, 1], by_place[group, 3]]
        order += [by_place[group, 1] for group in range(8 - w, 8)]
        self.assertEqual(all_given_by(k, r, w, order), parts)
        late = order[:w] + [order[w + 1], order[w]]
        self.assertEqual(given_by(k, r, w, late)[-2:], [[LOST, LOST], -5])

    def test_p5_what_is_held_is_bounded(self):
        draw = random.Random(7)
        for k, r, w in [(1, 0, 1), (2, 3, 4), (3, 1, 16)]:
            queue = PacketQueue(GroupCode(Field(), k, r), w)
            for _ in range(2000):
                group = queue.next_group + draw.choice([0, 0, 1, 2, 3, 10, 63])
                number = draw.randrange(k + r)
                content = [draw.randrange(256)] * draw.randint(0, 3)
                if queue.refusal_or_zero(group, number, content) == 0:
                    queue.take(group, number, content)
                held = [group for group in queue.packets if queue.packets[group]]
                self.assertTrue(all(queue.next_group <= group < queue.next_group + w for group in held))
                self.assertLessEqual(len(queue.packets), w)
                self.assertTrue(all(len(queue.packets[group]) < k + r + 1 for group in held))


if __name__ == "__main__":
    unittest.main()
