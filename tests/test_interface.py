"""The interface: how calls and answers are laid out, and that nothing is changed or kept."""

import builtins
import contextlib
import io
import random
import unittest
from unittest import mock

import lossline.stream
from lossline.field import Field
from tests.helper import begin, made_group, product, run, send, sent, take

SOME = (begin(2, 1, 1) + send([5]) + send([]) + take(0, 1, []) + take(0, 0, [5]) + take(2, 2, [1]) + sent()
        + take(9, 9, []))


class Interface(unittest.TestCase):
    def test_empty(self):
        self.assertEqual(lossline.stream.answers([]), [])

    def test_written_out(self):
        self.assertEqual(lossline.stream.answers([0, 3, 2, 1, 1, 0, 1, 0, 1, 1, 5, 1, 0, 1, 0]),
                         [1, 0, 5, 1, 3, 0, 0, 5, 10, 2, 2, 0, 1, 5, 0, 2, 1, 0, 5])
        self.assertEqual(lossline.stream.answers([2, 2, 1, 0, 1, 2, 8, 9, 2, 2, 0, 0, 1, 0, 3, 0, 0, 0, 3, 0, 0, 0, 0]),
                         [7, 2, 1, 1, 3, 0, 8, 9, 1, -5, 4, 0, 2, 0, 0, 1, -1])

    def test_several_calls(self):
        self.assertEqual(lossline.stream.answers(SOME), [
            1, 0,
            5, 1, 3, 0, 0, 5,
            10, 2, 2, 0, 1, 5, 0, 2, 1, 0, 5,
            1, 0,
            6, 2, 2, 0, 5, 1, 0,
            5, 2, 1, 1, 1, 1,
            4, 0, 2, 1, 0,
            1, -1,
        ])

    def test_what_is_handed_in_stays(self):
        calls = list(SOME)
        lossline.stream.answers(calls)
        self.assertEqual(calls, SOME)

    def test_what_is_handed_in_is_not_changed_for_a_while_either(self):
        class OnlyRead(list):
            def refuse(self, *rest):
                raise AssertionError("what was handed in is changed")

            __setitem__ = __delitem__ = __iadd__ = __imul__ = refuse
            append = extend = insert = pop = remove = clear = sort = reverse = refuse

        self.assertEqual(lossline.stream.answers(OnlyRead(SOME)), lossline.stream.answers(SOME))

    def test_nothing_is_kept(self):
        first = lossline.stream.answers(SOME)
        self.assertEqual(lossline.stream.answers(SOME), first)
        first.clear()
        lossline.stream.answers(begin(3, 3, 3) + send([1]))
        self.assertEqual(lossline.stream.answers(sent()), [4, 0, 2, 0, 0])
        self.assertEqual(lossline.stream.answers(SOME), lossline.stream.answers(list(SOME)))

    def test_an_answer_is_nobody_else_s(self):
        calls = begin(1, 0, 1) + send([5])
        found = lossline.stream.answers(calls)
        found[:] = [99] * len(found)
        self.assertEqual(calls, begin(1, 0, 1) + send([5]))

    def test_whole_numbers_and_lists(self):
        found = lossline.stream.answers(SOME)
        self.assertIs(type(found), list)
        self.assertEqual({type(number) for number in found}, {int})

    def test_prints_reads_and_imports_nothing(self):
        def refuse(*rest, **more):
            raise AssertionError("it reads or imports")

        printed = io.StringIO()
        with contextlib.redirect_stdout(printed), contextlib.redirect_stderr(printed):
            with mock.patch.object(builtins, "open", refuse), mock.patch.object(builtins, "input", refuse), \
                    mock.patch.object(builtins, "__import__", refuse):
                lossline.stream.answers(SOME)
        self.assertEqual(printed.getvalue(), "")

    def test_as_much_as_can_be_handed_in(self):
        draw = random.Random(9)
        calls = [begin(32, 16, 16)] + [send([draw.randrange(256) for _ in range(49)]) for _ in range(299)]
        self.assertLessEqual(sum(map(len, calls)), 16000)
        self.assertEqual(len(run(calls)), 300)
        self.assertEqual(len(run([sent()] * 300)), 300)

    def test_a_group_that_is_tried_again_and_again(self):
        # Of the sixteen rows that are missing the last one alone is wrong, and each take finds that anew.
        rows = [[64, 0] + [i + 1] * 64 for i in range(15)] + [[65, 0] + [16] * 64] + [[0] * 66] * 16
        packets = [(0, number, []) for number in range(16, 32)]
        packets += [(0, number, content) for number, content in made_group(32, 16, rows).items()]
        packets += [(1 + i // 48, i % 48, []) for i in range(267)]
        calls = [begin(32, 16, 16)] + [take(*packet) for packet in packets]
        self.assertEqual(len(calls), 300)
        self.assertLessEqual(sum(map(len, calls)), 16000)
        self.assertEqual(run(calls), [[0]] * 300)


class FieldTables(unittest.TestCase):
    def test_products(self):
        field = Field()
        for exponent in range(255):
            power = field.powers[exponent]
            self.assertEqual(field.times_power(list(range(256)), exponent), [product(power, b) for b in range(256)])
        self.assertEqual(field.powers[:6], [1, 3, 5, 15, 17, 51])
        self.assertEqual(sorted(field.powers), list(range(1, 256)))

    def test_quotients(self):
        field = Field()
        for exponent in range(255):
            self.assertEqual(field.times_power(field.times_power([0, 1, 77, 255], exponent), -exponent), [0, 1, 77, 255])
            self.assertEqual(field.times_power([5, 9], exponent - 4 * 255), field.times_power([5, 9], exponent))


if __name__ == "__main__":
    unittest.main()
