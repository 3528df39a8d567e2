"""Fractions: tuples (top, bottom) without a common divisor above 1, bottom above nought."""

NOUGHT = (0, 1)
ONE = (1, 1)


def common_divisor(one, other):
    while other != 0:
        rest = one % other
        one = other
        other = rest
    return abs(one)


def lowest(top, bottom):
    common = common_divisor(top, bottom)
    # A divisor below nought turns both signs, so that the bottom comes out above.
    if bottom < 0:
        common = -common
    return (top // common, bottom // common)


def plus(one, other):
    return lowest(one[0] * other[1] + other[0] * one[1], one[1] * other[1])


def minus(one, other):
    return lowest(one[0] * other[1] - other[0] * one[1], one[1] * other[1])


def times(one, other):
    return lowest(one[0] * other[0], one[1] * other[1])


def over(one, other):
    return lowest(one[0] * other[1], one[1] * other[0])


# Long sums go over one shared bottom: a lowest at each step of them would cost far more.
def shared_bottom(fractions):
    bottom = 1
    for fraction in fractions:
        bottom = bottom * (fraction[1] // common_divisor(bottom, fraction[1]))
    return bottom


def tops_over(fractions, bottom):
    return [fraction[0] * (bottom // fraction[1]) for fraction in fractions]


def without_common(tops):
    common = 0
    for top in tops:
        common = common_divisor(top, common)
    if common < 2:
        return list(tops)
    return [top // common for top in tops]


def whole_pair_sum(ones, others):
    return sum([one * other for one, other in zip(ones, others)])


def pair_sum(ones, others):
    ones_bottom = shared_bottom(ones)
    others_bottom = shared_bottom(others)
    top = whole_pair_sum(tops_over(ones, ones_bottom), tops_over(others, others_bottom))
    return lowest(top, ones_bottom * others_bottom)
