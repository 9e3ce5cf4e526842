"""The arithmetic of whole numbers that all parts of the bench share."""


# r(x, k) of the document: x divided by 2^k, to the nearest, a half upwards.
def rounded(x, k):
    if k == 0:
        return x
    return (x + (1 << (k - 1))) >> k


def held16(x):
    if x < -32768:
        return -32768
    if x > 32767:
        return 32767
    return x


def held32(x):
    if x < -2147483648:
        return -2147483648
    if x > 2147483647:
        return 2147483647
    return x


def all_within(numbers, low, high):
    for x in numbers:
        if x < low or x > high:
            return False
    return True


# The greatest whole number whose square is no more than x.
def square_root(x):
    # A first guess that is too great makes every later one fall until it is the root.
    guess = 1 << ((x.bit_length() + 1) // 2)
    while guess * guess > x:
        guess = (guess + x // guess) // 2
    return guess


# x (not below 0) divided by 2^k, k from 1 on, to the nearest, of two as near the even one.
def nearest_even(x, k):
    low = x >> k
    rest = x - (low << k)
    half = 1 << (k - 1)
    if rest > half or (rest == half and low % 2 == 1):
        return low + 1
    return low


# The double of these 64 bits taken in so many places; None where it is not a number.
def double_taken(bits, places):
    exponent = (bits >> 52) & 2047
    size = bits & (2 ** 52 - 1)
    if exponent == 2047:
        return None
    if exponent == 0:
        # The smallest doubles have no leading bit of their own and the scale of exponent 1.
        exponent = 1
    else:
        size += 2 ** 52
    shift = exponent - 1075 + places
    size = size << shift if shift >= 0 else nearest_even(size, -shift)
    return -size if bits >> 63 == 1 else size
