"""wants: the queue's next group, next part and latest group, and which packets of the next group are there."""

import itertools
import random
import unittest

from tests.helper import MOST, Case, begin, group, lists_behind, mul, packets_of_stream, run, send, sent, take, wants


def wanted_after(*calls):
    """What wants answers behind these calls: next group, next part, latest group; the numbers that are there."""
    answer = run(list(calls) + [wants()])[-1]
    assert answer[0] == 0, "wants is never refused"
    place, there = lists_behind(answer)
    return tuple(place), there


class Wants(Case):
    def test_on_a_new_object(self):
        self.assertEqual(run([wants()]), [[0, 3, 0, 0, 0, 0]])

    def test_written_out(self):
        self.assertEqual(run([begin(3, 2, 4), take(0, 4, [1]), take(0, 1, []), take(2, 0, []), wants()])[-1],
                         [0, 3, 0, 0, 2, 2, 1, 4])

    def test_some_of_the_next_group_in_any_order(self):
        # Part 0 stays away, so that nothing is given; no two of the packets from k on have one length.
        packets = [(0, 1, []), (0, 3, [1]), (0, 4, [1, 2]), (0, 6, [1, 2, 3])]
        for count in range(5):
            for order in itertools.permutations(packets, count):
                with self.subTest(order=order):
                    there = sorted(number for _, number, _ in order)
                    found = wanted_after(begin(3, 4, 1), *[take(*packet) for packet in order])
                    self.assertEqual(found, ((0, 0, 0), there))

    def test_all_but_one_part_of_the_largest_group(self):
        # These packets from k on are too short for a length, so the group isn't had back of them.
        numbers = list(range(1, 48))
        random.Random(21).shuffle(numbers)
        found = wanted_after(begin(32, 16, 1), *[take(0, number, []) for number in numbers])
        self.assertEqual(found, ((0, 0, 0), list(range(1, 48))))

    def test_later_groups_only(self):
        self.assertEqual(wanted_after(begin(2, 1, 4), take(3, 0, [1])), ((0, 0, 3), []))
        self.assertEqual(wanted_after(begin(2, 1, 4), take(3, 0, [1]), take(1, 2, [])), ((0, 0, 3), []))
        self.assertEqual(wanted_after(begin(2, 1, 16), take(15, 1, [1]), take(1, 0, [])), ((0, 0, 15), []))

    def test_after_parts_of_the_next_group_were_given(self):
        # What is given is there all the same: the group may be had back with its help.
        calls = [begin(4, 2, 2), take(0, 0, [1]), take(0, 1, [2])]
        self.assertEqual(wanted_after(*calls[:2]), ((0, 1, 0), [0]))
        self.assertEqual(wanted_after(*calls), ((0, 2, 0), [0, 1]))
        self.assertEqual(wanted_after(*calls, take(0, 3, [4])), ((0, 2, 0), [0, 1, 3]))
        self.assertEqual(wanted_after(*calls, take(0, 5, [4])), ((0, 2, 0), [0, 1, 5]))
        self.assertEqual(wanted_after(begin(4, 2, 2), take(0, 1, []), take(0, 2, []), take(0, 0, [])),
                         ((0, 3, 0), [0, 1, 2]))

    def test_after_a_group_of_parts_was_given(self):
        self.assertEqual(wanted_after(take(0, 0, [])), ((1, 0, 0), []))
        self.assertEqual(wanted_after(begin(2, 1, 2), take(0, 0, []), take(0, 1, [])), ((1, 0, 0), []))
        # Of group 1 part 1 came ahead; it is there once group 1 is the next one.
        self.assertEqual(wanted_after(begin(2, 1, 2), take(1, 1, []), take(0, 0, []), take(0, 1, [])), ((1, 0, 1), [1]))
        self.assertEqual(wanted_after(begin(2, 1, 2), take(1, 0, []), take(0, 0, []), take(0, 1, [])), ((1, 1, 1), [0]))

    def test_after_a_group_was_had_back(self):
        packets = packets_of_stream(3, 2, 2, [[1], [2, 2], []])
        calls = [take(*packets[number]) for number in (4, 1, 3)]
        self.assertEqual(wanted_after(begin(3, 2, 2), *calls[:2]), ((0, 0, 0), [1, 4]))
        self.assertEqual(wanted_after(begin(3, 2, 2), *calls), ((1, 0, 0), []))

    def test_after_groups_passed_as_lost(self):
        self.assertEqual(wanted_after(begin(2, 0, 1), take(1, 1, [])), ((1, 0, 1), [1]))
        self.assertEqual(wanted_after(begin(2, 0, 3), take(0, 1, []), take(2, 1, [])), ((0, 0, 2), [1]))
        self.assertEqual(wanted_after(begin(2, 0, 3), take(0, 1, []), take(3, 1, [])), ((1, 0, 3), []))
        # Group 63 passes all but the last 16 groups; group 48 is next, and of it two came ahead.
        self.assertEqual(wanted_after(begin(3, 2, 16), take(63, 0, [])), ((48, 0, 63), []))
        self.assertEqual(wanted_after(begin(2, 1, 2), take(1, 0, []), take(2, 2, []), take(3, 0, [])), ((2, 0, 3), [2]))
        self.assertEqual(wanted_after(take(63, 0, [])), ((64, 0, 63), []))

    def test_the_latest_group_does_not_go_back(self):
        self.assertEqual(wanted_after(begin(2, 0, 8), take(5, 0, []), take(2, 0, []), take(0, 0, [])), ((0, 1, 5), [0]))

    def test_after_begin(self):
        before = [begin(2, 1, 1), take(5, 0, []), take(5, 1, []), take(6, 2, [])]
        self.assertEqual(wanted_after(*before), ((6, 0, 6), [2]))
        self.assertEqual(wanted_after(*before, begin(2, 1, 1)), ((0, 0, 0), []))
        self.assertEqual(wanted_after(*before, begin(1, 0, 1)), ((0, 0, 0), []))
        self.assertEqual(wanted_after(*before, begin(0, 1, 1)), ((6, 0, 6), [2]))

    def test_after_a_refused_take(self):
        before = [begin(3, 2, 4), take(0, 0, [1]), take(0, 4, [1]), take(2, 1, [])]
        self.assertEqual(wanted_after(*before), ((0, 1, 2), [0, 4]))
        for refused in [take(0, 0, [1]), take(0, 4, []), take(2, 1, []), take(0, 5, []), take(0, 1, [0] * 65),
                        take(0, 3, [0] * 67), take(64, 0, []), take(2 ** 32, 0, []), take(MOST, MOST, [])]:
            with self.subTest(refused=refused):
                self.assertLess(run(before + [refused])[-1][0], 0)
                self.assertEqual(wanted_after(*before, refused), ((0, 1, 2), [0, 4]))

    def test_the_other_calls_do_not_touch_the_queue(self):
        before = [begin(2, 1, 4), take(0, 2, [1]), take(3, 1, [])]
        others = [send([1]), sent(), wants(), mul(3, 7), group([[1], [2]]), group([]), send([2]), send([0] * 65)]
        self.assertEqual(wanted_after(*before, *others), wanted_after(*before))

    def test_changes_nothing(self):
        draw = random.Random(22)
        packets = packets_of_stream(3, 2, 2, [[i] for i in range(30)])
        came = [take(*packet) for packet in draw.sample(packets, 30)]
        asked = [call for one in came for call in (wants(), one, wants(), wants())]
        found = run([begin(3, 2, 2)] + asked)[1:]
        self.assertEqual(found[1::4], run([begin(3, 2, 2)] + came)[1:])
        self.assertEqual(found[2::4], found[3::4])
        self.assertEqual(found[4::4], found[3:-1:4])

    def test_p5_of_the_next_group_fewer_are_there_than_it_has_packets(self):
        packets = packets_of_stream(3, 2, 2, [[i] for i in range(15)])
        calls = [begin(3, 2, 2)]
        for packet in packets:
            calls += [take(*packet), take(*packet), wants()]
        for answer in run(calls)[3::3]:
            self.assertLess(len(lists_behind(answer)[1]), 3)


if __name__ == "__main__":
    unittest.main()
