"""begin: what can be, what can't, and that all is new after it."""

import unittest

from tests.helper import LOST, MOST, Case, begin, parts_in, run, send, sent, take

CAN_BE = [(1, 0, 1), (32, 0, 1), (1, 16, 1), (1, 0, 16), (32, 16, 16), (1, 16, 16), (32, 0, 16), (32, 16, 1), (5, 3, 2)]
CANNOT_BE = [
    (0, 0, 1), (33, 0, 1), (MOST, 0, 1),
    (1, 17, 1), (1, MOST, 1),
    (1, 0, 0), (1, 0, 17), (1, 0, MOST),
    (0, 16, 16), (33, 17, 17), (MOST, MOST, MOST), (0, 0, 0),
]


class Begin(Case):
    def test_can_be(self):
        for cut in CAN_BE:
            with self.subTest(cut=cut):
                self.assertEqual(run([begin(*cut)]), [[0]])

    def test_cannot_be(self):
        for cut in CANNOT_BE:
            with self.subTest(cut=cut):
                self.assertEqual(run([begin(*cut)]), [[-1]])

    def test_a_new_one_is_cut_by_1_0_1(self):
        probe = [send([7]), sent(), take(0, 1, []), take(1, 0, [8]), take(2, 0, [9])]
        self.assertEqual(run([begin(1, 0, 1)] + probe)[1:], run(probe))
        self.assertEqual(run(probe)[:3], [[1, 3, 0, 0, 7], [0, 2, 1, 0], [-1]])
        self.assertEqual(parts_in(run(probe)[3]), [LOST, [8]])

    def test_cut_so(self):
        for k, r, w in CAN_BE:
            with self.subTest(cut=(k, r, w)):
                found = run([begin(k, r, w)] + [send([])] * k + [take(0, k + r, []), take(w - 1, k - 1, [])])
                self.assertEqual([answer[0] for answer in found[1:k]], [1] * (k - 1))
                self.assertEqual(found[k][0], 1 + r)
                self.assertEqual(found[k + 1], [-1])
                waits = k > 1 or w > 1
                self.assertEqual(found[k + 2][0], 0 if waits else 1)

    def test_waits_for_w_groups(self):
        for w in range(1, 17):
            with self.subTest(w=w):
                found = run([begin(2, 0, w), take(w - 1, 1, []), take(w, 1, [])])
                self.assertEqual(found[1:], [[0], [2, 1, 1, 1, 1] if w > 1 else [2, 1, 1, 1, 0]])

    def test_all_is_new(self):
        before = [begin(3, 2, 2), send([1]), send([2]), send([3]), send([4]),
                  take(0, 0, [1]), take(0, 4, [1, 2, 3]), take(1, 1, [9])]
        probe = [sent(), send([5]), send([6]), sent(), take(0, 0, [1]), take(0, 1, [1]), take(1, 1, [2]), take(2, 0, [])]
        for cut in [(3, 2, 2), (2, 0, 2), (1, 0, 1)]:
            with self.subTest(cut=cut):
                found = run(before + [begin(*cut)] + probe)
                self.assertEqual(found[len(before):], run([begin(*cut)] + probe))

    def test_the_latest_group_is_new(self):
        found = run([begin(2, 0, 1), take(9, 1, []), begin(2, 0, 1), take(0, 1, [])])
        self.assertEqual(found[3], [0])

    def test_refused_changes_nothing(self):
        before = [begin(3, 2, 2), send([1]), send([2]), take(0, 0, [1]), take(1, 1, [9])]
        probe = [sent(), send([3]), take(0, 0, [1]), take(0, 2, [3]), take(1, 1, []), take(2, 2, [4]), take(0, 1, [])]
        for cut in CANNOT_BE:
            with self.subTest(cut=cut):
                found = run(before + [begin(*cut)] + probe)
                self.assertEqual(found.pop(len(before)), [-1])
                self.assertEqual(found, run(before + probe))


if __name__ == "__main__":
    unittest.main()
