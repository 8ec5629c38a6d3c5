"""Sets of places, and words, as numbers: bit k of a set's number tells whether place k is in the set."""


def bits_of(places):
    """The number whose bits are these places, each of which is given once."""
    return sum([1 << place for place in places])


def places_of(bits):
    """The ascending tuple of the places whose bits the number has."""
    return tuple([place for place in range(bits.bit_length()) if has_place(bits, place)])


def has_place(bits, place):
    """Whether the number has the bit of this place."""
    return bits >> place & 1 == 1


def first_place(bits):
    """The least place of a number that has at least one bit."""
    return (bits & -bits).bit_length() - 1


def has_one_place(bits):
    """Whether the number has exactly one bit."""
    return bits != 0 and bits == 1 << first_place(bits)


def all_reached(rows):
    """For each place the bits of the places that are reached in one or more steps, rows telling those of one step."""
    reached = list(rows)
    for middle in range(len(reached)):
        for start in range(len(reached)):
            if has_place(reached[start], middle):
                reached[start] = reached[start] | reached[middle]
    return tuple(reached)


def number_of_word(word):
    """The number whose binary digits are the letters; of words of one length the later ones have greater numbers."""
    number = 0
    for letter in word:
        number = number << 1 | letter
    return number


def word_of_number(number, length):
    """The word of so many letters that has this number."""
    return tuple([number >> place & 1 for place in reversed(range(length))])
