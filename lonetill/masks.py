"""Masks: INTEGERS whose bit r tells whether the rest r (or the number r) is in a set."""


def full(many):
    """The mask with so many bits, all of them set."""
    return (1 << many) - 1


def turned(bits, step, by):
    """The rests by the period step, each moved by a number."""
    far = by % step
    return ((bits << far) | (bits >> (step - far))) & full(step)


def spread(bits, step, many):
    """The first so many bits of the mask that is repeated without end."""
    have = step
    while have < many:
        bits = bits | (bits << have)
        have = have + have
    return bits & full(many)


def window(step, bits, low, many):
    """So many numbers from low on: bit k tells whether low + k has one of the rests."""
    return spread(turned(bits, step, 0 - low), step, many)


def ones(bits):
    """The positions of all bits that are set, rising."""
    return [k for k, sign in enumerate(f"{bits:b}"[::-1]) if sign == "1"]


def many_ones(bits):
    """How many bits are set."""
    return f"{bits:b}".count("1")


def mask_of(positions):
    """The mask that has just these bits set."""
    bits = 0
    for position in positions:
        bits = bits | (1 << position)
    return bits


def backwards(bits, many):
    """So many bits, the last one first."""
    return int(f"{bits:b}".zfill(many)[::-1], 2)


def mirrored_rests(bits, step):
    """The rest of -x for each rest of x."""
    return turned(backwards(bits, step), step, 1)


def folded(bits, step):
    """The rests by the period step of all positions whose bits are set."""
    have = step
    while have < bits.bit_length():
        have = have + have
    while have > step:
        have = have // 2
        bits = (bits & full(have)) | (bits >> have)
    return bits


def sums_of(bits, others):
    """The mask of all sums of a position in the one and a position in the other."""
    out = 0
    for far in ones(bits):
        out = out | (others << far)
    return out


def repeats(bits, step, small):
    """Whether the mask of the period step is told by the smaller period, too."""
    return (bits ^ (bits >> small)) & full(step - small) == 0


def primes_of(number):
    """The primes that divide the number, rising."""
    out = []
    prime = 2
    while prime * prime <= number:
        if number % prime == 0:
            out.append(prime)
        while number % prime == 0:
            number = number // prime
        prime = prime + 1
    return out + [number] if number > 1 else out


def reduced(step, bits):
    """The least period that tells the same rests, and their mask by it."""
    if bits == full(step):
        return (1, 1)
    for prime in primes_of(step):
        while step % prime == 0 and repeats(bits, step, step // prime):
            step = step // prime
            bits = bits & full(step)
    return (step, bits)


def next_in(step, bits, number):
    """The least number, from the told one on, that has one of the rests (there is one)."""
    ahead = turned(bits, step, 0 - number)
    return number + (ahead & (0 - ahead)).bit_length() - 1


def last_in(step, bits, number):
    """The greatest number, up to the told one, that has one of the rests (there is one)."""
    return number - step + turned(bits, step, 0 - number - 1).bit_length()
