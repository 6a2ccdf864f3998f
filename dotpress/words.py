"""Bits of numbers, and the numbers that bits, widths and spans stand for."""


def powers_of_two(many):
    powers = []
    power = 1
    for place in range(many):
        powers.append(power)
        power = power * 2
    return powers


def power_of_two(exponent):
    return powers_of_two(exponent + 1)[exponent]


def bits_of(number, many):
    bits = []
    rest = number
    for place in range(many):
        # Both // and % round down, so numbers below 0 need no case of their own.
        bits.append(rest % 2)
        rest = rest // 2
    return bits


def number_of(bits, below):
    powers = powers_of_two(len(bits))
    number = sum([bit * power for bit, power in zip(bits, powers)])
    if below and len(bits) > 0:
        # The last bit was added once and is to be taken off once, so it goes off twice.
        number = number - 2 * bits[-1] * powers[-1]
    return number


def span_of_width(width):
    if width > 0:
        return (0, power_of_two(width) - 1)
    half = power_of_two(-width - 1)
    return (-half, half - 1)


def room_of(span):
    low = span[0]
    high = span[1]
    below = low < 0
    many = 1
    # Read below nought, the last bit holds no number above 0, so the limit is half as far.
    limit = 1 if below else 2
    while high >= limit or low < -limit:
        many = many + 1
        limit = limit * 2
    return (many, below)
