"""Sets as bits: member k is in a set if the bit worth 1 << k is."""


def bits_of(members):
    """The set of the places at which True stands."""
    bits = 0
    for k, is_in in enumerate(members):
        if is_in:
            bits = bits + (1 << k)
    return bits


def has(bits, k):
    return (bits >> k) % 2 == 1


def sums_of_sets(numbers):
    """For each set of places, in the order of their bits, the sum of the numbers there."""
    sums = [0]
    for number in numbers:
        # Each further place doubles the sets: those without it come first, then the same ones with it.
        sums = sums + [number + so_far for so_far in sums]
    return sums


def unions_of_sets(members):
    """For each set of places, in the order of their bits, all that the sets there hold together."""
    unions = [0]
    for bits in members:
        unions = unions + [bits | so_far for so_far in unions]
    return unions
