"""Groups: parts, their rows, their packets, and how they are had back."""

from lossline.limits import CANNOT_BE, LENGTH_BYTES, LONGEST_PART
from lossline.words import absent_row


def row_of(part, width):
    length = len(part)
    return [length % 256, length // 256] + part + [0] * (width - LENGTH_BYTES - length)


def part_or_none(row):
    # A packet that nobody sent may be too short to hold a length.
    if len(row) < LENGTH_BYTES:
        return None
    length = row[0] + 256 * row[1]
    end = LENGTH_BYTES + length
    if length > LONGEST_PART or end > len(row):
        return None
    if any(row[end:]):
        return None
    return row[LENGTH_BYTES:end]


class GroupCode:
    def __init__(self, field, k, r):
        self.field = field
        self.k = k
        self.r = r

    def refusal_or_zero(self, parts):
        if len(parts) != self.k or any([len(part) > LONGEST_PART for part in parts]):
            return CANNOT_BE
        return 0

    def packets_from_k(self, parts):
        width = max([len(part) for part in parts]) + LENGTH_BYTES
        rows = [row_of(part, width) for part in parts]
        there = list(range(self.k))
        absent = list(range(self.k, self.k + self.r))
        return [absent_row(self.field, absent, target, there, rows) for target in absent]

    def parts_or_none(self, packets):
        numbers = sorted(packets)[:self.k]
        if len(numbers) < self.k:
            return None
        # k different numbers, all below k, are all of 0 to k - 1.
        if numbers[-1] < self.k:
            return [packets[number] for number in numbers]
        rows = self.rows_or_none(numbers, packets)
        if rows is None:
            return None
        return self.parts_of_rows_or_none(numbers, rows)

    def rows_or_none(self, numbers, packets):
        # The last number is from k on, else all parts would be there; so its length is L.
        width = len(packets[numbers[-1]])
        rows = []
        for number in numbers:
            content = packets[number]
            if number < self.k:
                if len(content) > width - LENGTH_BYTES:
                    return None
                rows.append(row_of(content, width))
            else:
                if len(content) != width:
                    return None
                rows.append(content)
        return rows

    def parts_of_rows_or_none(self, numbers, rows):
        row_by_number = dict(zip(numbers, rows))
        absent = [number for number in range(self.k + self.r) if number not in row_by_number]
        parts = []
        for number in range(self.k):
            row = row_by_number.get(number)
            if row is None:
                row = absent_row(self.field, absent, number, numbers, rows)
            part = part_or_none(row)
            if part is None:
                return None
            parts.append(part)
        return parts
