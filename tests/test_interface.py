"""The interface: how calls and answers are laid out, and that nothing is changed or kept."""

import builtins
import contextlib
import io
import pathlib
import random
import re
import unittest
from unittest import mock

import lossline.stream
from lossline.field import Field
from tests.helper import Case, begin, group, made_group, mul, product, run, send, sent, take, wants

SOME = (begin(2, 1, 1) + send([5]) + send([]) + take(0, 1, []) + wants() + take(0, 0, [5]) + take(2, 2, [1]) + sent()
        + take(9, 9, []) + group([[5], []]) + mul(3, 7) + group([]) + wants())


class Interface(Case):
    def test_empty(self):
        self.assertEqual(lossline.stream.answers([]), [])

    def test_written_out(self):
        self.assertEqual(lossline.stream.answers([0, 3, 2, 1, 1, 0, 1, 0, 1, 1, 5, 1, 0, 1, 0]),
                         [1, 0, 5, 1, 3, 0, 0, 5, 10, 2, 2, 0, 1, 5, 0, 2, 1, 0, 5])
        self.assertEqual(lossline.stream.answers([2, 2, 1, 0, 1, 2, 8, 9, 2, 2, 0, 0, 1, 0, 3, 0, 0, 0, 3, 0, 0, 0, 0]),
                         [7, 2, 1, 1, 3, 0, 8, 9, 1, -5, 4, 0, 2, 0, 0, 1, -1])
        self.assertEqual(lossline.stream.answers([4, 0, 0, 5, 2, 3, 7, 0, 6, 0, 1, 2, 8, 9, 6, 0, 0, 6, 0, 2, 0, 0,
                                                  0, 3, 2, 2, 1, 0, 6, 0, 2, 0, 0]),
                         [6, 0, 3, 0, 0, 0, 0, 1, 9, 1, 0, 1, -1, 1, -1, 1, 0, 7, 0, 2, 0, 0, 2, 0, 0])

    def test_as_the_readme_shows(self):
        readme = pathlib.Path(__file__).resolve().parent.parent / "README.md"
        shown = readme.read_text(encoding="utf-8").split("```python\n")[1].split("```")[0]
        asked, answered = shown[shown.index("answers(["):].split("])\n")
        numbers = [[int(number) for number in re.findall(r"[0-9]+", text)] for text in (asked, answered)]
        self.assertEqual(lossline.stream.answers(numbers[0]), numbers[1])

    def test_several_calls(self):
        self.assertEqual(lossline.stream.answers(SOME), [
            1, 0,
            5, 1, 3, 0, 0, 5,
            10, 2, 2, 0, 1, 5, 0, 2, 1, 0, 5,
            1, 0,
            7, 0, 3, 0, 0, 0, 1, 1,
            6, 2, 2, 0, 5, 1, 0,
            5, 2, 1, 1, 1, 1,
            4, 0, 2, 1, 0,
            1, -1,
            5, 0, 3, 1, 0, 5,
            1, 9,
            1, -1,
            7, 0, 3, 2, 0, 2, 1, 2,
        ])

    def test_what_is_handed_in_stays(self):
        calls = list(SOME)
        lossline.stream.answers(calls)
        self.assertEqual(calls, SOME)

    def test_what_is_handed_in_is_not_changed_for_a_while_either(self):
        class OnlyRead(list):
            def refuse(self, *rest):
                raise AssertionError("what was handed in is changed")

            __setitem__ = __delitem__ = __iadd__ = __imul__ = refuse
            append = extend = insert = pop = remove = clear = sort = reverse = refuse

        self.assertEqual(lossline.stream.answers(OnlyRead(SOME)), lossline.stream.answers(SOME))

    def test_nothing_is_kept(self):
        first = lossline.stream.answers(SOME)
        self.assertEqual(lossline.stream.answers(SOME), first)
        first.clear()
        lossline.stream.answers(begin(3, 3, 3) + send([1]))
        self.assertEqual(lossline.stream.answers(sent()), [4, 0, 2, 0, 0])
        self.assertEqual(lossline.stream.answers(SOME), lossline.stream.answers(list(SOME)))

    def test_an_answer_is_nobody_else_s(self):
        calls = begin(1, 0, 1) + send([5])
        found = lossline.stream.answers(calls)
        found[:] = [99] * len(found)
        self.assertEqual(calls, begin(1, 0, 1) + send([5]))

    def test_whole_numbers_and_lists(self):
        found = lossline.stream.answers(SOME)
        self.assertIs(type(found), list)
        self.assertEqual({type(number) for number in found}, {int})

    def test_prints_reads_and_imports_nothing(self):
        def refuse(*rest, **more):
            raise AssertionError("it reads or imports")

        printed = io.StringIO()
        with contextlib.redirect_stdout(printed), contextlib.redirect_stderr(printed):
            with mock.patch.object(builtins, "open", refuse), mock.patch.object(builtins, "input", refuse), \
                    mock.patch.object(builtins, "__import__", refuse):
                lossline.stream.answers(SOME)
        self.assertEqual(printed.getvalue(), "")

    def test_as_much_as_can_be_handed_in(self):
        draw = random.Random(9)
        calls = [begin(32, 16, 16)] + [send([draw.randrange(256) for _ in range(49)]) for _ in range(299)]
        self.assertLessEqual(sum(map(len, calls)), 16000)
        self.assertEqual(len(run(calls)), 300)

    def test_300_calls_of_each(self):
        packets = [[group_number, 0, 7] for group_number in range(300)]
        self.assertEqual(run([begin(1, 0, 1)] * 300), [[0]] * 300)
        self.assertEqual(run([send([7])] * 300), [[1, 3] + packet for packet in packets])
        self.assertEqual(run([take(number, 0, [7]) for number in range(300)]), [[1, 2, 0, 7]] * 300)
        self.assertEqual(run([sent()] * 300), [[0, 2, 0, 0]] * 300)
        self.assertEqual(run([wants()] * 300), [[0, 3, 0, 0, 0, 0]] * 300)
        self.assertEqual(run([mul(2, 128)] * 300), [[27]] * 300)
        self.assertEqual(run([group([[1] * 40])] * 300), [[0]] * 300)
        self.assertEqual(run([begin(32, 16, 1)] + [group([[]] * 32)] * 299), [[0]] + [[0] + [2, 0, 0] * 16] * 299)

    def test_300_calls_stay_and_answer_the_same_twice(self):
        draw = random.Random(10)
        every = [begin(2, 1, 2), send([1, 2]), take(0, 2, [0, 0]), sent(), wants(), mul(200, 9), group([[4], []]),
                 take(1, 0, [3]), send([]), take(2, 1, [])]
        calls = [number for call in draw.choices(every, k=300) for number in call]
        before = list(calls)
        found = lossline.stream.answers(calls)
        self.assertEqual(calls, before)
        self.assertEqual(lossline.stream.answers(calls), found)
        self.assertEqual(calls, before)

    def test_the_largest_group_call(self):
        parts = [[255] * 64] * 32
        found = run([begin(32, 16, 1)] + [group(parts)] * 7)
        self.assertEqual([len(answer) for answer in found[1:]], [1 + 16 * 67] * 7)
        # A refused one is as long as can be: 40 lists of 100 numbers.
        self.assertEqual(run([group([[255] * 100] * 40)] * 3 + [wants()]), [[-1]] * 3 + [[0, 3, 0, 0, 0, 0]])

    def test_a_number_of_no_call(self):
        with self.assertRaises(lossline.stream.UnknownCall):
            lossline.stream.answers([7, 0, 0])

    def test_a_group_that_is_tried_again_and_again(self):
        # Of the sixteen rows that are missing the last one alone is wrong, and each take finds that anew.
        rows = [[64, 0] + [i + 1] * 64 for i in range(15)] + [[65, 0] + [16] * 64] + [[0] * 66] * 16
        packets = [(0, number, []) for number in range(16, 32)]
        packets += [(0, number, content) for number, content in made_group(32, 16, rows).items()]
        packets += [(1 + i // 48, i % 48, []) for i in range(267)]
        calls = [begin(32, 16, 16)] + [take(*packet) for packet in packets]
        self.assertEqual(len(calls), 300)
        self.assertLessEqual(sum(map(len, calls)), 16000)
        self.assertEqual(run(calls), [[0]] * 300)


class FieldTables(Case):
    def test_products(self):
        field = Field()
        for exponent in range(255):
            power = field.powers[exponent]
            self.assertEqual(field.times_power(list(range(256)), exponent), [product(power, b) for b in range(256)])
        self.assertEqual(field.powers[:6], [1, 3, 5, 15, 17, 51])
        self.assertEqual(sorted(field.powers), list(range(1, 256)))

    def test_quotients(self):
        field = Field()
        for exponent in range(255):
            self.assertEqual(field.times_power(field.times_power([0, 1, 77, 255], exponent), -exponent), [0, 1, 77, 255])
            self.assertEqual(field.times_power([5, 9], exponent - 4 * 255), field.times_power([5, 9], exponent))

    def test_one_product_is_like_that_of_a_row(self):
        field = Field()
        for exponent in range(255):
            products = [field.product(a, field.powers[exponent]) for a in range(256)]
            self.assertEqual(products, field.times_power(list(range(256)), exponent))


if __name__ == "__main__":
    unittest.main()
