"""The calls on one object, which is new at the beginning of each list of calls."""

from lossline.field import Field
from lossline.groups import GroupCode
from lossline.layout import Reader, laid_out
from lossline.limits import CANNOT_BE, LONGEST_WAIT, MOST_MORE, MOST_PARTS
from lossline.packet_queue import PacketQueue
from lossline.sender import Sender

BEGIN = 0
SEND = 1
TAKE = 2
SENT = 3
WANTS = 4
MUL = 5
GROUP = 6


class UnknownCall(ValueError):
    pass


class Stream:
    def __init__(self):
        self.field = Field()
        self.cut_anew(1, 0, 1)

    def cut_anew(self, k, r, w):
        self.code = GroupCode(self.field, k, r)
        self.sender = Sender(self.code)
        self.queue = PacketQueue(self.code, w)

    def begin(self, k, r, w):
        if k < 1 or k > MOST_PARTS or r > MOST_MORE or w < 1 or w > LONGEST_WAIT:
            return laid_out(CANNOT_BE, [])
        self.cut_anew(k, r, w)
        return laid_out(0, [])

    def send(self, part):
        refusal = self.sender.refusal_or_zero(part)
        if refusal < 0:
            return laid_out(refusal, [])
        packets = self.sender.send(part)
        return laid_out(len(packets), packets)

    def take(self, group, number, content):
        refusal = self.queue.refusal_or_zero(group, number, content)
        if refusal < 0:
            return laid_out(refusal, [])
        given = self.queue.take(group, number, content)
        return laid_out(len(given), given)

    def sent(self):
        return laid_out(0, [[self.sender.group_now, len(self.sender.parts)]])

    def wants(self):
        queue = self.queue
        return laid_out(0, [[queue.next_group, queue.next_part, queue.latest_group], queue.numbers_there()])

    def mul(self, a, b):
        return laid_out(self.field.product(a, b), [])

    def group(self, parts):
        refusal = self.code.refusal_or_zero(parts)
        if refusal < 0:
            return laid_out(refusal, [])
        return laid_out(0, self.code.packets_from_k(parts))


def answer_of(stream, call, numbers, lists):
    if call == BEGIN:
        return stream.begin(numbers[0], numbers[1], numbers[2])
    if call == SEND:
        return stream.send(lists[0])
    if call == TAKE:
        return stream.take(numbers[0], numbers[1], lists[0])
    if call == SENT:
        return stream.sent()
    if call == WANTS:
        return stream.wants()
    if call == MUL:
        return stream.mul(numbers[0], numbers[1])
    if call == GROUP:
        return stream.group(lists)
    raise UnknownCall("no such call")


def answers(calls):
    stream = Stream()
    reader = Reader(calls)
    result = []
    while not reader.at_end():
        call = reader.one_number()
        numbers = reader.one_list()
        lists = reader.some_lists()
        answer = answer_of(stream, call, numbers, lists)
        result.append(len(answer))
        result.extend(answer)
    return result
