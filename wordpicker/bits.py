"""How numbers of 64 bits are cut, given their sign and taken apart."""

ALL_BITS = 0xFFFFFFFFFFFFFFFF


def signed(number, bits):
    """The lowest bits of number as a whole number that may be below 0."""
    half = 1 << (bits - 1)
    return ((number + half) & (half + half - 1)) - half


def extended(number, bits):
    """The lowest bits of number, carried on with their sign to 64 bits."""
    return signed(number, bits) & ALL_BITS


def low_bytes(number, size):
    """The lowest bytes of number, as many as size says."""
    return number & ((1 << (8 * size)) - 1)


def lanes_of(number, bits):
    """The small numbers that lie side by side in 64 bits, the lowest first."""
    mask = (1 << bits) - 1
    return [(number >> shift) & mask for shift in range(0, 64, bits)]


def side_by_side(lanes, bits):
    """Small numbers put together into one, the first one lowest."""
    number = 0
    shift = 0
    for lane in lanes:
        number |= lane << shift
        shift += bits
    return number
