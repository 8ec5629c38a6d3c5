"""Sets of places as numbers: bit k of the number tells whether place k is in the set."""


def bits_of(places):
    """The number whose bits are these places, each of which is given once."""
    return sum([1 << place for place in places])


def first_place(bits):
    """The least place of a number that has at least one bit."""
    return (bits & -bits).bit_length() - 1


def has_one_place(bits):
    """Whether the number has exactly one bit."""
    return bits != 0 and bits == 1 << first_place(bits)
