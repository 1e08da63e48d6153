"""Numbers as bytes, lowest byte first, and CRC-32C."""

ALL_BITS = 0xFFFFFFFF
FOLD = 0x82F63B78


def low_first(number, size):
    """So many bytes of the number, the lowest first."""
    numbers = []
    for turn in range(size):
        numbers.append(number % 256)
        number = number // 256
    return numbers


def number_at(numbers, start, size):
    """The number whose bytes stand there, the lowest first; bytes behind the end count as 0."""
    number = 0
    for byte in reversed(numbers[start:start + size]):
        number = number * 256 + byte
    return number


def bits_after(bits, numbers):
    """The 32 bits behind these bytes, not turned yet, so that more bytes can follow."""
    for byte in numbers:
        bits = bits ^ byte
        for turn in range(8):
            lowest = bits & 1
            bits = bits >> 1
            if lowest == 1:
                bits = bits ^ FOLD
    return bits


def sum_bytes(bits):
    """The 4 bytes of the sum that these 32 bits come to."""
    return low_first(bits ^ ALL_BITS, 4)
