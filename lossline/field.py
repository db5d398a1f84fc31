"""Bytes as polynomials over 0 and 1, modulo x^8 + x^4 + x^3 + x + 1."""

MODULUS = 283
ORDER = 255


def times_g(byte):
    # g is x + 1, so the byte itself is added to x times it.
    doubled = byte * 2
    if doubled > 255:
        doubled = doubled ^ MODULUS
    return doubled ^ byte


def powers_of_g():
    powers = [1]
    while len(powers) < ORDER:
        powers.append(times_g(powers[-1]))
    return powers


def exponents_of(powers):
    exponents = [0] * (ORDER + 1)
    for exponent, power in enumerate(powers):
        exponents[power] = exponent
    return exponents


def added(row, other):
    return [byte ^ more for byte, more in zip(row, other)]


# Every byte but 0 is a power of g, so a product is looked up by the sum of two exponents.
class Field:
    def __init__(self):
        self.powers = powers_of_g()
        self.exponents = exponents_of(self.powers)

    def product(self, a, b):
        # 0 is no power of g, so it has no exponent.
        if a == 0 or b == 0:
            return 0
        return self.powers[(self.exponents[a] + self.exponents[b]) % ORDER]

    def times_power(self, row, exponent):
        powers = self.powers
        exponents = self.exponents
        # The remainder is never below 0, so an exponent below 0 divides.
        return [powers[(exponents[byte] + exponent) % ORDER] if byte > 0 else 0 for byte in row]
