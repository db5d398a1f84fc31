"""The queue: packets go in as the line brings them, parts come out in order."""

from lossline.limits import CANNOT_BE, GROUP_LIMIT, LENGTH_BYTES, LONGEST_PART, PASSED_OR_THERE, REACH, TOO_FAR


def given_part(part):
    return [0] + part


def lost_part():
    return [1]


class PacketQueue:
    def __init__(self, code, w):
        self.code = code
        self.w = w
        self.next_group = 0
        self.next_part = 0
        self.latest_group = 0
        # A dict of dicts, by group and then by number: a group's packets go together.
        self.packets = {}

    # Asked ahead of each change, so that what is refused changes nothing.
    def refusal_or_zero(self, group, number, content):
        if not self.can_be(group, number, content):
            return CANNOT_BE
        if group < self.next_group or number in self.packets_of(group):
            return PASSED_OR_THERE
        if group >= self.next_group + REACH:
            return TOO_FAR
        return 0

    def can_be(self, group, number, content):
        if group >= GROUP_LIMIT or number >= self.code.k + self.code.r:
            return False
        if number < self.code.k:
            return len(content) <= LONGEST_PART
        return len(content) <= LONGEST_PART + LENGTH_BYTES

    def packets_of(self, group):
        return self.packets.get(group, {})

    def numbers_there(self):
        return sorted(self.packets_of(self.next_group))

    def take(self, group, number, content):
        packets = self.packets.setdefault(group, {})
        packets[number] = content
        self.latest_group = max(self.latest_group, group)
        return self.give_as_far_as_it_goes()

    def give_as_far_as_it_goes(self):
        given = []
        parts = self.ended_group_or_none()
        while parts is not None:
            given.extend(parts[self.next_part:])
            self.go_on()
            parts = self.ended_group_or_none()
        given.extend(self.give_what_came())
        return given

    def ended_group_or_none(self):
        packets = self.packets_of(self.next_group)
        parts = self.code.parts_or_none(packets)
        if parts is not None:
            return [given_part(part) for part in parts]
        if self.latest_group < self.next_group + self.w:
            return None
        return [given_part(packets[number]) if number in packets else lost_part() for number in range(self.code.k)]

    def go_on(self):
        self.packets.pop(self.next_group, None)
        self.next_group = self.next_group + 1
        self.next_part = 0

    def give_what_came(self):
        # What is given here stays in the queue: the group may still be had back with its help.
        packets = self.packets_of(self.next_group)
        given = []
        # This ends below k, for with all of 0 to k - 1 there the group was had back.
        while self.next_part in packets:
            given.append(given_part(packets[self.next_part]))
            self.next_part = self.next_part + 1
        return given
