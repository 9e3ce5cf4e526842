"""What is told of rows: their patterns, when bounds are passed, how late one is, their sums."""

from feelbench.whole import rounded

# Sums of products are packed into one great number, so many bits for each: no sum of 65536 products
# of two samples is beyond 2^46 on either side of 0. HALF is 2^47, MASK 2^48 - 1.
WIDTH = 48
HALF = 140737488355328
MASK = 281474976710655
BLOCK = 1024


# How strong each pattern is in samples of which there are 1, 2, 4, 8, ...
def patterns_of(samples):
    numbers = list(samples)
    size = len(numbers)
    h = 1
    while h < size:
        for i in range(size):
            if i & h == 0:
                x = numbers[i]
                y = numbers[i + h]
                numbers[i] = rounded(x + y, 1)
                numbers[i + h] = rounded(x - y, 1)
        h *= 2
    return numbers


# For each change the sample's number and 1 (up) or 0.
def changes_of(samples, low, high):
    changes = []
    up = 0
    for at, x in enumerate(samples):
        if up == 0 and x >= high:
            up = 1
            changes.append((at, up))
        elif up == 1 and x < low:
            up = 0
            changes.append((at, up))
    return changes


# Walked from 0 outwards, above 0 first: of equal sums the one that is met first is told.
def how_late(samples, others, most):
    sums = lag_sums(samples, others, most)
    best = 0
    for size in range(1, most + 1):
        for d in (size, -size):
            if sums[most + d] > sums[most + best]:
                best = d
    return [best, sums[most + best]]


# S(d) for d from -most to most. A block of samples backward times the others round about it, both packed,
# gives the sums for all d at once: x_i stands at BLOCK - 1 - i and y_(i + d) at i + d + most, so their product
# at BLOCK - 1 + most + d whatever i is. Lag by lag it would take too long where rows and most are great.
def lag_sums(samples, others, most):
    xs = samples + [0] * (-len(samples) % BLOCK)
    ys = [0] * most + others + [0] * (len(xs) + most)
    span = BLOCK + 2 * most
    # No sum borrows from the one above it if each begins at HALF.
    total = packed([HALF] * (BLOCK + span))
    for start in range(0, len(xs), BLOCK):
        total += packed(list(reversed(xs[start:start + BLOCK]))) * packed(ys[start:start + span])
    return [((total >> (WIDTH * at)) & MASK) - HALF for at in range(BLOCK - 1, span)]


# Joined two by two, as one number after another would be copied over and over.
def packed(numbers):
    parts = list(numbers)
    width = WIDTH
    while len(parts) > 1:
        if len(parts) % 2 == 1:
            parts.append(0)
        parts = [low + (high << width) for low, high in zip(parts[0::2], parts[1::2])]
        width *= 2
    return parts[0]


# The least, the greatest, the sum, the sum of the squares.
def sums_of(samples):
    squares = sum([x * x for x in samples])
    return [min(samples, default=0), max(samples, default=0), sum(samples), squares]
