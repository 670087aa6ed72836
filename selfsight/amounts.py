"""Numbers: tuples (TOP, BOTTOM) of whole numbers, BOTTOM at least 1, in lowest terms."""


def common_divisor(one, other):
    greater = abs(one)
    lesser = abs(other)
    while lesser != 0:
        rest = greater % lesser
        greater = lesser
        lesser = rest
    return greater


def amount(top, bottom):
    divisor = common_divisor(top, bottom)
    return (top // divisor, bottom // divisor)


def plus(one, other):
    return amount(one[0] * other[1] + other[0] * one[1], one[1] * other[1])


def minus(one, other):
    return amount(one[0] * other[1] - other[0] * one[1], one[1] * other[1])


def times(one, other):
    return amount(one[0] * other[0], one[1] * other[1])


def below(one, other):
    # Bottoms are above 0, so multiplying by both of them keeps the order.
    return one[0] * other[1] < other[0] * one[1]
