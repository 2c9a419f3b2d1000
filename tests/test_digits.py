"""digits, cross and times (promise 2)."""

import unittest

from lines import HIGHEST, MILLION, PRIMES, ask_many, ask_to, sample_numbers

TOO_HIGH = [MILLION + 1, MILLION + 2, 2 * MILLION, HIGHEST]


class Digits(unittest.TestCase):

    def test_how_many_then_they_the_last_one_first(self):
        self.assertEqual(ask_to(2, ("digits", 6)), [[3, 0, 1, 1]])
        self.assertEqual(ask_to(3, ("digits", 47)), [[4, 2, 0, 2, 1]])
        self.assertEqual(ask_to(7, ("digits", 100)), [[3, 2, 0, 2]])
        self.assertEqual(ask_to(11, ("digits", 10)), [[1, 10]])

    def test_0_has_none_and_1_has_one(self):
        for prime in PRIMES:
            self.assertEqual(ask_to(prime, ("digits", 0), ("digits", 1)), [[0], [1, 1]])

    def test_the_prime_itself_and_its_powers(self):
        for prime in PRIMES:
            calls = [("digits", prime), ("digits", prime * prime), ("digits", prime * prime * prime)]
            self.assertEqual(ask_to(prime, *calls), [[2, 0, 1], [3, 0, 0, 1], [4, 0, 0, 0, 1]])

    def test_all_one_less_than_the_prime(self):
        for prime in PRIMES:
            self.assertEqual(ask_to(prime, ("digits", prime * prime * prime - 1)), [[3] + [prime - 1] * 3])

    def test_a_million(self):
        self.assertEqual(ask_to(97, ("digits", MILLION)), [[4, 27, 27, 9, 1]])
        self.assertEqual(ask_to(5, ("digits", MILLION)), [[9, 0, 0, 0, 0, 0, 0, 4, 2, 2]])
        self.assertEqual(ask_to(2, ("digits", MILLION))[0][0], 20)

    def test_the_digits_make_up_the_number(self):
        for prime in PRIMES:
            numbers = sample_numbers(prime)
            given = ask_many(prime, [("digits", number) for number in numbers])
            for number, (many, *digits) in zip(numbers, given, strict=True):
                self.assertEqual(many, len(digits))
                self.assertEqual(sum(digit * prime ** place for place, digit in enumerate(digits)), number)
                self.assertTrue(all(0 <= digit < prime for digit in digits))
                self.assertTrue(number == 0 or digits[-1] != 0)

    def test_refused_above_a_million(self):
        for number in TOO_HIGH:
            self.assertEqual(ask_to(5, ("digits", number), ("digits", 7)), [[-22], [2, 2, 1]])


class Cross(unittest.TestCase):

    def test_all_digits_together(self):
        self.assertEqual(ask_to(2, ("cross", 7), ("cross", 8), ("cross", 10)), [[3], [1], [2]])
        self.assertEqual(ask_to(3, ("cross", 47)), [[5]])
        self.assertEqual(ask_to(7, ("cross", 100)), [[4]])

    def test_corners(self):
        for prime in PRIMES:
            calls = [("cross", 0), ("cross", 1), ("cross", prime), ("cross", prime - 1), ("cross", prime * prime - 1)]
            self.assertEqual(ask_to(prime, *calls), [[0], [1], [1], [prime - 1], [2 * (prime - 1)]])

    def test_a_million(self):
        self.assertEqual(ask_to(97, ("cross", MILLION)), [[64]])
        self.assertEqual(ask_to(5, ("cross", MILLION)), [[8]])
        self.assertEqual(ask_to(2, ("cross", MILLION)), [[7]])

    def test_it_is_the_sum_of_the_digits_told(self):
        for prime in PRIMES:
            numbers = sample_numbers(prime)
            digits = ask_many(prime, [("digits", number) for number in numbers])
            crosses = ask_many(prime, [("cross", number) for number in numbers])
            self.assertEqual(crosses, [[sum(row[1:])] for row in digits])

    def test_refused_above_a_million(self):
        for number in TOO_HIGH:
            self.assertEqual(ask_to(5, ("cross", number), ("cross", 7)), [[-22], [3]])


class Times(unittest.TestCase):

    def test_how_often_the_prime_divides(self):
        calls = [("times", number) for number in (1, 2, 3, 4, 12, 48, 524288, 786432)]
        self.assertEqual(ask_to(2, *calls), [[0], [1], [0], [2], [2], [4], [19], [18]])
        self.assertEqual(ask_to(3, ("times", 54), ("times", 55), ("times", 531441)), [[3], [0], [12]])
        self.assertEqual(ask_to(97, ("times", 912673), ("times", 9409 * 5), ("times", 96)), [[3], [2], [0]])

    def test_the_prime_itself_and_1(self):
        for prime in PRIMES:
            calls = [("times", 1), ("times", prime), ("times", prime - 1), ("times", prime + 1)]
            self.assertEqual(ask_to(prime, *calls), [[0], [1], [0], [0]])

    def test_a_million(self):
        for prime in PRIMES:
            expected = 6 if prime in (2, 5) else 0
            self.assertEqual(ask_to(prime, ("times", MILLION)), [[expected]])

    def test_it_is_how_many_digits_0_come_last(self):
        for prime in PRIMES:
            numbers = sample_numbers(prime)[1:]
            digits = ask_many(prime, [("digits", number) for number in numbers])
            times = ask_many(prime, [("times", number) for number in numbers])
            for row, often in zip(digits, times, strict=True):
                self.assertEqual(often, [next(place for place, digit in enumerate(row[1:]) if digit != 0)])

    def test_0_is_refused(self):
        for prime in PRIMES:
            self.assertEqual(ask_to(prime, ("times", 0), ("times", prime)), [[-22], [1]])

    def test_refused_above_a_million(self):
        for number in TOO_HIGH:
            self.assertEqual(ask_to(5, ("times", number), ("times", 50)), [[-22], [2]])


if __name__ == "__main__":
    unittest.main()
