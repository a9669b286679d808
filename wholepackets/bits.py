"""Numbers as bits, and octets as the values of fields."""

OCTET_WIDTH = 8
LONGEST_PACKET = 64


def ones(width):
    """Return the number whose `width` lowest bits are 1."""
    return (1 << width) - 1


def high_ones(width, length):
    """Return the number of `width` bits whose `length` highest bits are 1."""
    return ones(length) << (width - length)


def fits(number, width):
    """Tell if a number can be written with `width` bits."""
    return 0 <= number <= ones(width)


def within(value, mask):
    """Tell if a value has no bit that its mask does not have."""
    return value & mask == value


def split_octets(octets, widths):
    """Return the values of the fields with these widths that some octets hold."""
    number = 0
    for octet in octets:
        number = (number << OCTET_WIDTH) + octet
    left = sum(widths)
    values = []
    for width in widths:
        left -= width
        values.append((number >> left) & ones(width))
    return values


def join_octets(values, widths):
    """Return the octets that hold the values of fields with these widths."""
    number = 0
    for value, width in zip(values, widths):
        number = (number << width) + value
    octets = []
    for _ in range(sum(widths) // OCTET_WIDTH):
        octets.append(number & ones(OCTET_WIDTH))
        number = number >> OCTET_WIDTH
    octets.reverse()
    return octets


def is_packet(octets):
    """Tell if octets are as many as a packet may have."""
    return 1 <= len(octets) <= LONGEST_PACKET


def compute(operator, first, second):
    """Return the value of an operator for two numbers, without a bound."""
    if operator == "+":
        return first + second
    if operator == "-":
        return first - second
    if operator == "&":
        return first & second
    if operator == "|":
        return first | second
    return first ^ second
