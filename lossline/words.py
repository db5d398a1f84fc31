"""Words: bytes c(0) to c(n - 1) of which, for each j from 0 to n - k - 1, the sum of all c(i) g^(i j) is 0.

So for each polynomial p of a degree below n - k, the sum of all c(i) p(g^i) is 0. Of n - k absent places,
the p that is 0 at all but one has such a degree, and leaves that one place alone unknown in the sum.
"""

from lossline.field import added


def exponent_of_p(field, absent, target, place):
    here = field.powers[place]
    exponent = 0
    for other in absent:
        if other != target:
            exponent = exponent + field.exponents[here ^ field.powers[other]]
    return exponent


def absent_row(field, absent, target, there, rows):
    own = exponent_of_p(field, absent, target, target)
    total = [0] * len(rows[0])
    for place, row in zip(there, rows):
        exponent = exponent_of_p(field, absent, target, place) - own
        total = added(total, field.times_power(row, exponent))
    return total
