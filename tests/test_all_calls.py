"""All seven calls mixed in one list, compared with the second writing of the document."""

import collections
import random
import unittest

from tests.helper import MOST, Case, Model, begin, group, mul, packets_in, run, send, sent, take, wants

NAMES = ("begin", "send", "take", "sent", "wants", "mul", "group")
LAID_OUT = dict(zip(NAMES, (begin, send, take, sent, wants, mul, group)))
MOST_NUMBERS = 16000
SMALL = (4, 3, 4)
WIDE = (8, 16, 16)


class Drawn:
    """A list of calls that is drawn call by call, most of which bring what was sent, and what the model answers."""

    def __init__(self, draw, count, cut_up_to, weights):
        self.draw = draw
        self.cut_up_to = cut_up_to
        self.model = Model()
        self.names, self.calls, self.wanted = [], [], []
        self.on_the_line = [(0, 0, [])]
        left = MOST_NUMBERS
        for name in ["begin"] + draw.choices(NAMES, weights, k=count - 1):
            values = getattr(self, "for_" + name)()
            call = LAID_OUT[name](*values)
            left -= len(call)
            if left < 0:
                break
            self.names.append(name)
            self.calls.append(call)
            self.wanted.append(getattr(self.model, name)(*values))
            if name == "send" and self.wanted[-1][0] > 0:
                self.on_the_line += packets_in(self.wanted[-1])

    def part(self):
        length = self.draw.choice([0, 1, 3, 64, 65, 100]) if self.draw.random() < 0.1 else 2
        return [self.draw.randrange(256) for _ in range(length)]

    def for_begin(self):
        if self.draw.random() < 0.05:
            return self.draw.choice([(MOST, 0, 1), (1, MOST, 1), (1, 0, MOST), (33, 0, 1), (1, 17, 1), (1, 0, 17)])
        return tuple(self.draw.randint(0, most) for most in self.cut_up_to)

    def for_send(self):
        return (self.part(),)

    def for_take(self):
        draw = self.draw
        packet_group, number, content = draw.choice(self.on_the_line[-draw.choice([1, 5, 20]):])
        if draw.random() < 0.15:
            packet_group += draw.choice([0, 1, 62, 63, 64, 65, 2 ** 32])
            number += draw.randint(0, 2)
            content = content + [draw.randrange(256)] * draw.randint(0, 2)
        return packet_group, number, content

    def for_sent(self):
        return ()

    def for_wants(self):
        return ()

    def for_mul(self):
        return self.draw.randrange(256), self.draw.randrange(256)

    def for_group(self):
        count = self.model.k
        if self.draw.random() < 0.15:
            count = self.draw.choice([0, max(0, count - 1), count + 1, 40])
        return ([self.part() for _ in range(count)],)


class Mixed(Case):
    def compare(self, seed, turns, longest, cut_up_to, weights):
        """How often each call was answered, and how often with which refusal."""
        draw = random.Random(seed)
        seen = collections.Counter()
        for turn in range(turns):
            drawn = Drawn(draw, draw.randint(1, longest), cut_up_to, weights)
            with self.subTest(seed=seed, turn=turn):
                self.assertEqual(run(drawn.calls), drawn.wanted)
            for name, answer in zip(drawn.names, drawn.wanted):
                seen[name, min(answer[0], 0)] += 1
        return seen

    def check_seen(self, seen):
        wanted = {("begin", 0), ("begin", -1), ("send", 0), ("send", -1), ("take", 0), ("take", -1), ("take", -5),
                  ("take", -6), ("sent", 0), ("wants", 0), ("mul", 0), ("group", 0), ("group", -1)}
        self.assertEqual(set(seen), wanted)
        self.assertGreater(min(seen.values()), 10)

    def test_small_groups(self):
        self.check_seen(self.compare(51, 250, 120, SMALL, (2, 40, 45, 5, 15, 5, 10)))

    def test_wide_groups(self):
        self.check_seen(self.compare(52, 25, 200, WIDE, (3, 40, 45, 5, 15, 5, 5)))

    def test_all_calls_as_often(self):
        self.check_seen(self.compare(53, 150, 60, SMALL, (1,) * 7))

    def test_lists_of_300_calls(self):
        draw = random.Random(54)
        for turn in range(12):
            drawn = Drawn(draw, 300, SMALL, (1, 40, 45, 5, 20, 5, 5))
            self.assertEqual(len(drawn.calls), 300)
            with self.subTest(turn=turn):
                self.assertEqual(run(drawn.calls), drawn.wanted)

    def test_the_largest_groups(self):
        draw = random.Random(55)
        for k, r in [(32, 16), (32, 0), (1, 16)]:
            model = Model()
            parts = [[draw.randrange(256) for _ in range(draw.randint(0, 3))] for _ in range(2 * k)]
            calls = [begin(k, r, 2), group(parts[:k])] + [send(part) for part in parts] + [group(parts[k:]), sent()]
            wanted = [model.begin(k, r, 2), model.group(parts[:k])] + [model.send(part) for part in parts]
            wanted += [model.group(parts[k:]), model.sent()]
            packets = [packet for answer in wanted[2:-2] for packet in packets_in(answer)]
            for packet in draw.sample(packets, min(len(packets), 80)):
                calls += [take(*packet), wants()]
                wanted += [model.take(*packet), model.wants()]
            self.assertLessEqual(len(calls), 300)
            with self.subTest(k=k, r=r):
                self.assertEqual(run(calls), wanted)


if __name__ == "__main__":
    unittest.main()
