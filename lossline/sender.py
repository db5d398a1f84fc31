"""The sender: parts go in, packets come out."""

from lossline.limits import CANNOT_BE, GROUP_LIMIT, LONGEST_PART, TOO_FAR


class Sender:
    def __init__(self, code):
        self.code = code
        self.group_now = 0
        self.parts = []

    # Asked ahead of each change, so that what is refused changes nothing.
    def refusal_or_zero(self, part):
        if len(part) > LONGEST_PART:
            return CANNOT_BE
        if self.group_now >= GROUP_LIMIT:
            return TOO_FAR
        return 0

    def send(self, part):
        packets = [[self.group_now, len(self.parts)] + part]
        self.parts.append(part)
        if len(self.parts) == self.code.k:
            packets.extend(self.end_group())
        return packets

    def end_group(self):
        packets = []
        for place, content in enumerate(self.code.packets_from_k(self.parts)):
            packets.append([self.group_now, self.code.k + place] + content)
        self.group_now = self.group_now + 1
        self.parts = []
        return packets
