"""What the tests share: calls and answers as lists, and a second, slow writing of the document to compare with."""

import itertools
import unittest

from lossline.stream import answers

MOST = 18446744073709551615
LOST = None


class Case(unittest.TestCase):
    """Tells where two lists first differ: what unittest tells of long ones by itself takes minutes."""

    def assertListEqual(self, found, wanted, msg=None):
        if found == wanted:
            return
        place = 0
        while place < min(len(found), len(wanted)) and found[place] == wanted[place]:
            place += 1
        told = f"at place {place}: {found[place:place + 1]!r:.500} is not {wanted[place:place + 1]!r:.500}"
        self.fail(self._formatMessage(msg, f"lists of {len(found)} and {len(wanted)} differ, first {told}"))


def begin(k, r, w):
    return [0, 3, k, r, w, 0]


def send(part):
    return [1, 0, 1, len(part)] + list(part)


def take(group, number, content):
    return [2, 2, group, number, 1, len(content)] + list(content)


def sent():
    return [3, 0, 0]


def wants():
    return [4, 0, 0]


def mul(a, b):
    return [5, 2, a, b, 0]


def group(parts):
    return [6, 0, len(parts)] + [number for part in parts for number in [len(part)] + list(part)]


def split_answers(flat):
    """The answers of a whole list, each without how many numbers it has."""
    found = []
    place = 0
    while place < len(flat):
        found.append(flat[place + 1:place + 1 + flat[place]])
        place += 1 + flat[place]
    assert place == len(flat), "an answer is cut off"
    return found


def run(calls):
    """The answers to these calls (a list of lists), one for each."""
    found = split_answers(answers(list(itertools.chain.from_iterable(calls))))
    assert len(found) == len(calls), "not one answer a call"
    return found


def lists_behind(answer):
    """The lists behind an answer's first number, each without how many numbers it has."""
    return split_answers(answer[1:])


def packets_in(answer):
    """The packets that a send answered: (group, number, bytes)."""
    found = lists_behind(answer)
    assert answer[0] == len(found), "not as many packets as told"
    return [(packet[0], packet[1], packet[2:]) for packet in found]


def parts_in(answer):
    """The parts that a take answered, LOST for a lost one."""
    found = lists_behind(answer)
    assert answer[0] == len(found), "not as many parts as told"
    for part in found:
        assert part == [1] or part[0] == 0, "neither a part nor a lost one"
    return [LOST if part == [1] else part[1:] for part in found]


def bytes_of(length, start=0):
    return [(start + 37 * i) % 256 for i in range(length)]


def packets_of_stream(k, r, w, parts):
    """All packets that a sender makes of these parts, in order."""
    found = []
    for answer in run([begin(k, r, w)] + [send(part) for part in parts])[1:]:
        found.extend(packets_in(answer))
    return found


def given_by(k, r, w, packets):
    """What each take of these packets gives, or its refusal."""
    found = run([begin(k, r, w)] + [take(*packet) for packet in packets])[1:]
    return [answer[0] if answer[0] < 0 else parts_in(answer) for answer in found]


def all_given_by(k, r, w, packets):
    """All parts that these packets give, one behind another."""
    return [part for given in given_by(k, r, w, packets) if not isinstance(given, int) for part in given]


def product(a, b):
    """Long multiplication and division of polynomials, as the document words it."""
    whole = 0
    for bit in range(8):
        if b >> bit & 1:
            whole ^= a << bit
    for bit in range(14, 7, -1):
        if whole >> bit & 1:
            whole ^= 0x11B << (bit - 8)
    return whole


PRODUCTS = [[product(a, b) for b in range(256)] for a in range(256)]
INVERSES = [0] + [PRODUCTS[a].index(1) for a in range(1, 256)]


def power_of_g(exponent):
    value = 1
    for _ in range(exponent):
        value = PRODUCTS[value][3]
    return value


POWERS = [power_of_g(exponent) for exponent in range(48 * 16)]


def syndrome(column, j):
    """The sum of all c(i) g^(i j)."""
    total = 0
    for i, byte in enumerate(column):
        total ^= PRODUCTS[byte][POWERS[i * j]]
    return total


def is_word(column, k):
    return all(syndrome(column, j) == 0 for j in range(len(column) - k))


def row_of(part, length):
    row = [len(part), 0] + list(part)
    return row + [0] * (length - len(row))


def word_with(places, n):
    """The word of n, len(places) that has these bytes (by place), by elimination over the sums."""
    unknown = [i for i in range(n) if i not in places]
    known = [places.get(i, 0) for i in range(n)]
    rows = [[POWERS[i * j] for i in unknown] + [syndrome(known, j)] for j in range(len(unknown))]
    for c in range(len(unknown)):
        pivot = next(line for line in range(c, len(rows)) if rows[line][c])
        rows[c], rows[pivot] = rows[pivot], rows[c]
        scale = INVERSES[rows[c][c]]
        rows[c] = [PRODUCTS[scale][value] for value in rows[c]]
        for line in range(len(rows)):
            if line != c and rows[line][c]:
                times = rows[line][c]
                rows[line] = [value ^ PRODUCTS[times][other] for value, other in zip(rows[line], rows[c])]
    word = list(known)
    for line, i in enumerate(unknown):
        word[i] = rows[line][-1]
    return word


def made_group(k, r, rows):
    """The packets from k on, by number, of a group with these k rows, whatever the rows are."""
    words = [word_with(dict(enumerate(column)), k + r) for column in zip(*rows)]
    return {number: [word[number] for word in words] for number in range(k, k + r)}


def had_back(k, r, packets):
    """The parts of a group of which these packets (bytes by number) are there, or None."""
    if all(number in packets for number in range(k)):
        return [packets[number] for number in range(k)]
    first = sorted(packets)[:k]
    if len(first) < k:
        return None
    lengths = {len(packets[number]) for number in first if number >= k}
    if len(lengths) != 1:
        return None
    length = lengths.pop()
    if any(len(packets[number]) > length - 2 for number in first if number < k):
        return None
    rows = {number: packets[number] if number >= k else row_of(packets[number], length) for number in first}
    words = [word_with({number: rows[number][place] for number in first}, k + r) for place in range(length)]
    parts = []
    for number in range(k):
        row = [word[number] for word in words]
        if len(row) < 2 or row[1] or row[0] > 64 or row[0] > length - 2 or set(row[2 + row[0]:]) - {0}:
            return None
        parts.append(row[2:2 + row[0]])
    return parts


class Model:
    """The state and the calls as the document words them; what it answers is laid out like what run gives."""

    def __init__(self):
        self.begin(1, 0, 1)

    def begin(self, k, r, w):
        if not (1 <= k <= 32 and 0 <= r <= 16 and 1 <= w <= 16):
            return [-1]
        self.k, self.r, self.w = k, r, w
        self.group_now, self.parts = 0, []
        self.following, self.part, self.latest, self.held = 0, 0, 0, {}
        return [0]

    def send(self, part):
        if len(part) > 64:
            return [-1]
        made = [[self.group_now, len(self.parts)] + part]
        self.parts = self.parts + [part]
        if len(self.parts) == self.k:
            made += [[self.group_now, number] + content for number, content in self.packets_from_k(self.parts).items()]
            self.group_now, self.parts = self.group_now + 1, []
        return self.laid_out(len(made), made)

    def packets_from_k(self, parts):
        length = max(map(len, parts)) + 2
        return made_group(self.k, self.r, [row_of(part, length) for part in parts])

    def take(self, group, number, content):
        if group >= 2 ** 32 or number >= self.k + self.r or len(content) > (64 if number < self.k else 66):
            return [-1]
        if group < self.following or (group, number) in self.held:
            return [-5]
        if group - self.following >= 64:
            return [-6]
        self.held[group, number] = content
        self.latest = max(self.latest, group)
        given = self.give()
        return self.laid_out(len(given), given)

    def give(self):
        given = []
        while True:
            here = {number: content for (group, number), content in self.held.items() if group == self.following}
            parts = had_back(self.k, self.r, here)
            if parts is None and self.latest - self.following >= self.w:
                parts = [here.get(number) for number in range(self.k)]
            if parts is None:
                break
            given += [[1] if part is None else [0] + part for part in parts[self.part:]]
            self.held = {key: content for key, content in self.held.items() if key[0] != self.following}
            self.following, self.part = self.following + 1, 0
        while self.part < self.k and self.part in here:
            given.append([0] + here[self.part])
            self.part += 1
        return given

    def sent(self):
        return self.laid_out(0, [[self.group_now, len(self.parts)]])

    def wants(self):
        there = sorted(number for (group, number) in self.held if group == self.following)
        return self.laid_out(0, [[self.following, self.part, self.latest], there])

    def mul(self, a, b):
        return [product(a, b)]

    def group(self, parts):
        if len(parts) != self.k or max(map(len, parts)) > 64:
            return [-1]
        return self.laid_out(0, list(self.packets_from_k(parts).values()))

    @staticmethod
    def laid_out(first, lists):
        return [first] + [value for one in lists for value in [len(one)] + one]
