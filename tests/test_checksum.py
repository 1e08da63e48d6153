import unittest

from panelsessions.bytework import ALL_BITS, bits_after, low_first, number_at, sum_bytes
from tests import desk


class Checksum(unittest.TestCase):
    def test_the_sum_that_the_document_tells(self):
        self.assertEqual(sum_bytes(bits_after(ALL_BITS, list(b"123456789"))), [0x83, 0x92, 0x06, 0xE3])
        self.assertEqual(desk.crc(list(b"123456789")), 0xE3069283)

    def test_no_bytes(self):
        self.assertEqual(sum_bytes(bits_after(ALL_BITS, [])), [0, 0, 0, 0])

    def test_every_byte_alone(self):
        for byte in range(256):
            self.assertEqual(sum_bytes(bits_after(ALL_BITS, [byte])), desk.low(desk.crc([byte]), 4))

    def test_bytes_in_two_parts_as_in_one(self):
        numbers = [k * 37 % 256 for k in range(300)]
        for cut in (0, 1, 8, 299, 300):
            bits = bits_after(bits_after(ALL_BITS, numbers[:cut]), numbers[cut:])
            self.assertEqual(sum_bytes(bits), desk.low(desk.crc(numbers), 4))

    def test_numbers_stand_lowest_byte_first(self):
        self.assertEqual(low_first(0x01020304, 4), [4, 3, 2, 1])
        self.assertEqual(low_first(0, 2), [0, 0])
        self.assertEqual(number_at([9, 4, 3, 2, 1, 9], 1, 4), 0x01020304)
        self.assertEqual(number_at([255, 255, 255, 255], 0, 4), 4294967295)
        self.assertEqual(number_at([7, 1], 1, 4), 1)
        self.assertEqual(number_at([], 4, 4), 0)


if __name__ == "__main__":
    unittest.main()
