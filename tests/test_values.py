"""Values of the plain machine: points [30] and [31], leastimage/values.py."""

import unittest

from leastimage.values import difference, in_place, is_address, sum_of

from common import all_odd_values

OWNER = ("o", "", "d")
MEMBER = ("l", "m", "d")
STUB = ("", "", "d")


def at(distance, owner=OWNER, image=0):
    return (image, owner, distance)


class AddressTest(unittest.TestCase):
    def test_right_ones(self):
        for value in (at(0), at(65535), at(7, MEMBER, 4), at(1, STUB, 400), at(0, ("", "", ""), 10**12)):
            self.assertIs(is_address(value), True, value)

    def test_bounds(self):
        for value in (at(-1), at(65536), at(0, image=-1)):
            self.assertIs(is_address(value), False, value)

    def test_booleans_are_no_numbers(self):
        for value in (at(True), at(False), at(0, image=True), at(0, image=False)):
            self.assertIs(is_address(value), False, value)

    def test_owners(self):
        owners = ["d", ("d",), ("o", "d"), ("o", "", "d", 0), list(OWNER), None, 3, (), ("o", None, "d"), ("o", 0, "d")]
        for owner in [*owners, (1, "", "d"), ("o", "", True), ("o", "", ("d",))]:
            self.assertIs(is_address(at(0, owner)), False, owner)

    def test_other_values(self):
        words = [0, 1, 65535, -1, "", "o", (0, OWNER), (0, OWNER, 0, 0), [0, OWNER, 0], (OWNER, 0, 0)]
        for value in [*words, *all_odd_values(), (None, OWNER, 0), (0, OWNER, None), (0, OWNER, "0")]:
            self.assertIs(is_address(value), False, value)


class SumTest(unittest.TestCase):
    def test_words(self):
        for one, other, told in ((0, 0, 0), (1, 2, 3), (65535, 1, 0), (65535, 65535, 65534), (0, 65535, 65535)):
            self.assertEqual(sum_of(one, other), told)

    def test_an_address_and_a_word_in_both_orders(self):
        for owner in (OWNER, MEMBER, STUB):
            for one, word, told in ((0, 0, 0), (3, 4, 7), (65535, 1, 0), (2, 65535, 1)):
                self.assertEqual(sum_of(at(one, owner, 2), word), at(told, owner, 2))
                self.assertEqual(sum_of(word, at(one, owner, 2)), at(told, owner, 2))

    def test_two_addresses(self):
        for other in (at(0), at(1), at(0, MEMBER), at(0, image=1)):
            self.assertIsNone(sum_of(at(0), other))


class DifferenceTest(unittest.TestCase):
    def test_words(self):
        for one, other, told in ((0, 0, 0), (3, 2, 1), (0, 1, 65535), (0, 65535, 1), (65535, 65535, 0)):
            self.assertEqual(difference(one, other), told)

    def test_an_address_less_a_word(self):
        for owner in (OWNER, MEMBER, STUB):
            for one, word, told in ((5, 3, 2), (0, 1, 65535), (0, 0, 0), (1, 65535, 2)):
                self.assertEqual(difference(at(one, owner, 3), word), at(told, owner, 3))

    def test_a_word_less_an_address(self):
        for word in (0, 1, 65535):
            self.assertIsNone(difference(word, at(0)))

    def test_two_addresses(self):
        self.assertEqual(difference(at(5), at(3)), 2)
        self.assertEqual(difference(at(3), at(5)), 65534)
        self.assertEqual(difference(at(0, STUB, 1), at(0, STUB, 1)), 0)
        self.assertEqual(difference(at(65535), at(0)), 65535)
        for other in (at(3, MEMBER), at(3, STUB), at(3, image=1), at(3, ("o", "", "e"))):
            self.assertIsNone(difference(at(5), other))
            self.assertIsNone(difference(other, at(5)))


class InPlaceTest(unittest.TestCase):
    def test_as_many_cells_as_the_distance_one_more_and_one_less(self):
        for distance in (0, 1, 5, 65535):
            self.assertIs(in_place(at(distance), distance), False)
            self.assertIs(in_place(at(distance), distance + 1), True)
            if distance > 0:
                self.assertIs(in_place(at(distance), distance - 1), False)

    def test_code_and_stubs(self):
        for owner in (("o", "", "main"), STUB):
            self.assertIs(in_place(at(0, owner), 1), True)
            self.assertIs(in_place(at(1, owner), 1), False)
            self.assertIs(in_place(at(65535, owner), 1), False)

    def test_values_of_other_kinds(self):
        for value in [0, 1, 65535, at(False), at(0, image=True), (0, OWNER), *all_odd_values()]:
            self.assertIs(in_place(value, 10), False, value)

    def test_by_name(self):
        self.assertIs(is_address(value=at(0)), True)
        self.assertIs(in_place(value=at(0), cells=1), True)
        self.assertEqual(sum_of(one=1, other=2), 3)
        self.assertEqual(difference(one=1, other=2), 65535)


if __name__ == "__main__":
    unittest.main()
