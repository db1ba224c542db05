"""Large numbers and fractions, told number by number."""

BYTES = 320


def large_number(value):
    """Tell a number by its bytes, the lowest first."""
    told = []
    left = value
    for place in range(BYTES):
        told.append(left % 256)
        left = left // 256
    return told


def fraction(part, whole):
    """Tell the part by the whole (above 0) in lowest terms."""
    divisor = common_divisor(part, whole)
    return large_number(part // divisor) + large_number(whole // divisor)


def common_divisor(one, other):
    """The greatest number that divides both; of 0 and another that other one."""
    larger = one
    smaller = other
    while smaller > 0:
        rest = larger % smaller
        larger = smaller
        smaller = rest
    return larger
