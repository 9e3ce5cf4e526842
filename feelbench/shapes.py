"""New rows of samples made of old ones: thinned out, stretched, mixed."""

from feelbench.whole import held16, rounded

MOST_RATE = 65536
MOST_SAMPLES = 65536
# So many steps of a stretch lie between a sample and the next.
STEPS = 65536


def thinned(samples, m, first):
    return samples[first::m]


def thinned_rate(rate, m):
    return max(rate // m, 1)


# Places are told in steps. All lie before the last sample, as there is none behind that to go on to.
def stretched(samples, step):
    end = min(STEPS * (len(samples) - 1), step * MOST_SAMPLES)
    return [sample_at(samples, place) for place in range(0, end, step)]


# What lies on the way from one sample to the next is between the two, so it needs no holding.
def sample_at(samples, place):
    i = place // STEPS
    x = samples[i]
    return x + rounded((samples[i + 1] - x) * (place % STEPS), 16)


def stretched_rate(rate, step):
    return min(max(STEPS * rate // step, 1), MOST_RATE)


def mixed(samples, others, c, d):
    return [held16(rounded(c * x + d * y, 15)) for x, y in zip(samples, others)]
