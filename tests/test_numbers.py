"""Point [2]."""

import unittest
from itertools import combinations, product

from finecloud.numbers import bits_for, bits_of, choices, number_of, power


class Numbers(unittest.TestCase):
    def test_power(self):
        self.assertEqual([power(times) for times in range(6)], [1, 2, 4, 8, 16, 32])
        self.assertEqual(power(2000), 2 ** 2000)

    def test_choices_are_counted(self):
        for many in range(8):
            for some in range(10):
                self.assertEqual(choices(many, some), len(list(combinations(range(many), some))))

    def test_choices_of_too_many_or_fewer_than_none(self):
        for many, some in ((0, 1), (3, 4), (3, 100), (5, -1), (0, -1), (-1, 0), (-2, -1), (-1, -2)):
            self.assertEqual(choices(many, some), 0)

    def test_great_choices(self):
        self.assertEqual(choices(2 ** 30, 2), 2 ** 30 * (2 ** 30 - 1) // 2)
        self.assertEqual(choices(2 ** 30, 2 ** 30 - 1), 2 ** 30)
        self.assertEqual(choices(2 ** 30, 2 ** 30), 1)
        self.assertEqual(choices(2 ** 30, 1000) * (2 ** 30 - 1000), choices(2 ** 30, 1001) * 1001)

    def test_bits_for(self):
        self.assertEqual([bits_for(many) for many in range(1, 10)], [0, 1, 2, 2, 3, 3, 3, 3, 4])
        for many in list(range(1, 300)) + [2 ** 100 - 1, 2 ** 100, 2 ** 100 + 1]:
            least = bits_for(many)
            self.assertLessEqual(many, 2 ** least)
            self.assertTrue(least == 0 or many > 2 ** (least - 1))

    def test_bits_of_all_numbers(self):
        for many in range(8):
            rows = list(product((0, 1), repeat=many))
            self.assertEqual([bits_of(number, many) for number in range(2 ** many)], rows)
            self.assertEqual([number_of(bits) for bits in rows], list(range(2 ** many)))

    def test_bits_by_hand(self):
        self.assertEqual(bits_of(0, 0), ())
        self.assertEqual(number_of(()), 0)
        self.assertEqual(bits_of(6, 5), (0, 0, 1, 1, 0))
        self.assertEqual(number_of((0, 0, 1, 1, 0)), 6)
        self.assertIs(type(bits_of(6, 5)), tuple)

    def test_great_numbers_as_bits(self):
        number = 3 ** 20000
        bits = bits_of(number, 40000)
        self.assertEqual(len(bits), 40000)
        self.assertEqual(number_of(bits), number)
        self.assertEqual({type(bit) for bit in bits}, {int})


if __name__ == "__main__":
    unittest.main()
