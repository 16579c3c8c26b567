"""Numbers in a fixed number of octets, the most significant one first."""


def write_wide(number, count):
    """Returns the octets of a number from 0 on."""
    octets = []
    for _ in range(count):
        octets.append(number & 255)
        number = number >> 8
    octets.reverse()
    return octets


def read_wide(octets):
    """Returns the number that octets tell."""
    number = 0
    for octet in octets:
        number = (number << 8) | octet
    return number
