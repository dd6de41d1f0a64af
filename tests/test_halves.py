"""The halves of an address: point [9], leastimage/halves.py."""

import unittest

from leastimage.errors import InvalidNumber
from leastimage.halves import high_half, low_half, signed, unsigned, whole, wrapped

from common import ODD_VALUES, code, raised

# An address with its high and its low half.
HALVES = [
    (0, 0, 0),
    (1, 0, 1),
    (126, 0, 126),
    (127, 0, 127),
    (128, 1, -128),
    (129, 1, -127),
    (255, 1, -1),
    (256, 1, 0),
    (383, 1, 127),
    (384, 2, -128),
    (32767, 128, -1),
    (32768, 128, 0),
    (65279, 255, -1),
    (65280, 255, 0),
    (65407, 255, 127),
    (65408, 0, -128),
    (65409, 0, -127),
    (65535, 0, -1),
]
NO_NUMBERS = [value for value in ODD_VALUES if value != -1] + ["1", "", (1,), [1], None, True, False]


class HalvesTest(unittest.TestCase):
    def test_halves(self):
        for address, high, low in HALVES:
            self.assertEqual(high_half(address), high, address)
            self.assertEqual(low_half(address), low, address)

    def test_whole(self):
        for address, high, low in HALVES:
            self.assertEqual(whole(high, low), address)

    def test_each_address_there_and_back(self):
        for address in range(65536):
            high, low = high_half(address), low_half(address)
            if not (0 <= high <= 255 and -128 <= low <= 127 and whole(high, low) == address):
                self.fail(f"{address}: {high}, {low}")

    def test_halves_lead_back_through_cells(self):
        # As the cells high and low do it: the second one adds a signed part.
        for address, _, _ in HALVES:
            parts = high_half(address), unsigned(low_half(address))
            self.assertEqual(wrapped(parts[0] * 256 + signed(parts[1])), address)

    def test_whole_wraps(self):
        self.assertEqual(whole(0, -1), 65535)
        self.assertEqual(whole(0, -128), 65408)
        self.assertEqual(whole(255, 127), 65407)

    def test_whole_refuses_the_high_half(self):
        for value in NO_NUMBERS + [-1, 256, 1000, code("a")]:
            self.assertIs(raised(self, InvalidNumber, whole, value, 0).value, value)
            self.assertIs(raised(self, InvalidNumber, whole, value, 128).value, value)
            self.assertIs(raised(self, InvalidNumber, whole, value, None).value, value)

    def test_whole_refuses_the_low_half(self):
        for value in NO_NUMBERS + [-129, 128, 255, code("a")]:
            self.assertIs(raised(self, InvalidNumber, whole, 0, value).value, value)
            self.assertIs(raised(self, InvalidNumber, whole, 255, value).value, value)

    def test_whole_at_the_bounds(self):
        for high in (0, 255):
            for low in (-128, 127):
                self.assertEqual(whole(high, low), (high * 256 + low + 65536) % 65536)

    def test_signed(self):
        for part, value in ((0, 0), (1, 1), (127, 127), (128, -128), (129, -127), (254, -2), (255, -1)):
            self.assertEqual(signed(part), value)

    def test_unsigned(self):
        cases = [(0, 0), (5, 5), (255, 255), (256, 0), (-1, 255), (-128, 128), (-256, 0), (-257, 255), (65535, 255)]
        for value, part in cases:
            self.assertEqual(unsigned(value), part)
        self.assertEqual(unsigned(-999999999), -999999999 % 256)

    def test_signed_and_unsigned_there_and_back(self):
        for part in range(256):
            self.assertEqual(unsigned(signed(part)), part)
        for value in range(-128, 128):
            self.assertEqual(signed(unsigned(value)), value)

    def test_wrapped(self):
        for value, word in ((0, 0), (65535, 65535), (65536, 0), (65537, 1), (-1, 65535), (-65536, 0), (-65537, 65535)):
            self.assertEqual(wrapped(value), word)
        self.assertEqual(wrapped(999999999), 999999999 % 65536)

    def test_values_by_name(self):
        self.assertEqual(high_half(address=384), 2)
        self.assertEqual(low_half(address=384), -128)
        self.assertEqual(whole(low=-128, high=2), 384)
        self.assertEqual(signed(part=255), -1)
        self.assertEqual(unsigned(value=-1), 255)
        self.assertEqual(wrapped(value=-1), 65535)


if __name__ == "__main__":
    unittest.main()
