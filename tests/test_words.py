import unittest

from fifteenbits.words import amount, minus_narrow, minus_wide, narrow, number_of, overflow, plus, wide, with_sign


class Words(unittest.TestCase):
    def test_put_wide_the_sign_stands_twice(self):
        for word, expected in ((0, 0), (0o37777, 0o37777), (0o40000, 0o140000), (0o77777, 0o177777)):
            self.assertEqual(wide(word), expected)

    def test_put_narrow_the_upper_sign_stays(self):
        for word, expected in ((0, 0), (0o177777, 0o77777), (0o40001, 0o00001), (0o137776, 0o77776),
                               (0o100000, 0o40000), (0o37777, 0o37777)):
            self.assertEqual(narrow(word), expected)

    def test_minus_turns_all_bits(self):
        self.assertEqual(minus_narrow(0), 0o77777)
        self.assertEqual(minus_narrow(0o12345), 0o65432)
        self.assertEqual(minus_wide(0), 0o177777)
        self.assertEqual(minus_wide(0o112345), 0o65432)

    def test_sum_adds_the_carry_at_the_bottom(self):
        rows = (
            (0, 0, 0), (0o177777, 0, 0o177777), (0o177777, 0o177777, 0o177777), (1, 0o177776, 0o177777),
            (2, 0o177776, 1), (0o177776, 0o177776, 0o177775), (0o37777, 1, 0o40000),
            (0o140000, 0o177776, 0o137777), (0o177777, 1, 1), (0o100000, 0o100000, 1),
        )
        for one, other, expected in rows:
            self.assertEqual(plus(one, other), expected, (oct(one), oct(other)))
            self.assertEqual(plus(other, one), expected, (oct(other), oct(one)))

    def test_overflow(self):
        rows = ((0, 0), (0o37777, 0), (0o40000, 1), (0o77777, 1), (0o100000, 0o177776), (0o137777, 0o177776),
                (0o140000, 0), (0o177777, 0))
        for word, expected in rows:
            self.assertEqual(overflow(word), expected, oct(word))

    def test_numbers_and_amounts(self):
        rows = ((0, 0), (0o77777, 0), (5, 5), (0o77772, -5), (0o37777, 16383), (0o40000, -16383))
        for word, number in rows:
            self.assertEqual(number_of(word), number, oct(word))
            self.assertEqual(amount(word), abs(number), oct(word))
        self.assertEqual(with_sign(0, True), 0o77777)
        self.assertEqual(with_sign(5, True), 0o77772)
        self.assertEqual(with_sign(5, False), 5)
