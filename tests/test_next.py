"""next and without (promise 3), and what holds of them."""

import itertools
import unittest

from lines import HIGHEST, MILLION, PRIMES, SOME_PRIMES, ask_many, ask_to, sample_numbers


class Next(unittest.TestCase):

    def test_the_cross_sum_then_how_often(self):
        self.assertEqual(ask_to(2, ("next", 3), ("next", 4), ("next", 5)), [[1, 2], [2, 0], [2, 1]])
        self.assertEqual(ask_to(3, ("next", 8), ("next", 16), ("next", 17)), [[1, 2], [5, 0], [2, 2]])
        self.assertEqual(ask_to(7, ("next", 100), ("next", 97), ("next", 293)), [[5, 0], [2, 2], [6, 2]])

    def test_0_and_1(self):
        for prime in PRIMES:
            expected = [[1, 0], [1, 1]] if prime == 2 else [[1, 0], [2, 0]]
            self.assertEqual(ask_to(prime, ("next", 0), ("next", 1)), expected)

    def test_the_prime_itself_and_one_less(self):
        for prime in PRIMES:
            self.assertEqual(ask_to(prime, ("next", prime), ("next", prime - 1)), [[2, 0], [1, 1]])

    def test_a_carry_that_runs_on(self):
        for prime in PRIMES:
            full = prime ** 3 - 1
            self.assertEqual(ask_to(prime, ("next", full), ("next", full + prime ** 2)), [[1, 3], [2, 2]])
        self.assertEqual(ask_to(2, ("next", 524287)), [[1, 19]])

    def test_below_a_million(self):
        self.assertEqual(ask_to(2, ("next", 999999)), [[7, 6]])
        self.assertEqual(ask_to(5, ("next", 999999)), [[8, 6]])
        self.assertEqual(ask_to(97, ("next", 999999), ("next", 912672)), [[64, 0], [1, 3]])

    def test_refused_from_a_million_on(self):
        for number in (MILLION, MILLION + 1, 2 * MILLION, HIGHEST):
            for prime in (2, 5, 97):
                self.assertEqual(ask_to(prime, ("next", number), ("told",)), [[-22], [prime]], number)

    def test_it_is_what_cross_and_carries_and_times_tell(self):
        for prime in PRIMES:
            for number in sample_numbers(prime)[:-1]:
                calls = [("next", number), ("cross", number + 1), ("carries", number, 1), ("times", number + 1)]
                both, cross, carried, divided = ask_to(prime, *calls)
                self.assertEqual(both, cross + carried, (prime, number))
                self.assertEqual(both, cross + divided, (prime, number))

    def test_the_cross_sum_is_one_more_but_for_what_is_carried(self):
        for prime in SOME_PRIMES:
            numbers = list(range(500)) + sample_numbers(prime)[:-1]
            crosses = ask_many(prime, [("cross", number) for number in numbers])
            given = ask_many(prime, [("next", number) for number in numbers])
            for [before], (behind, often) in zip(crosses, given, strict=True):
                self.assertEqual(before + 1, behind + (prime - 1) * often)


class Without(unittest.TestCase):

    def test_what_is_left_then_how_often(self):
        self.assertEqual(ask_to(2, ("without", 8, 5), ("without", 7, 5), ("without", 6, 3)), [[3, 3], [2, 0], [3, 2]])
        self.assertEqual(ask_to(3, ("without", 9, 4), ("without", 8, 4), ("without", 10, 2)), [[5, 2], [4, 0], [8, 2]])
        self.assertEqual(ask_to(7, ("without", 29, 9), ("without", 350, 55)), [[20, 1], [295, 2]])

    def test_0_taken_away(self):
        for prime in PRIMES:
            for number in (0, 1, prime, prime * prime - 1, MILLION):
                self.assertEqual(ask_to(prime, ("without", number, 0)), [[number, 0]])

    def test_two_that_are_alike_are_not_refused(self):
        for prime in PRIMES:
            for number in (0, 1, prime - 1, prime, 999999, MILLION):
                self.assertEqual(ask_to(prime, ("without", number, number)), [[0, 0]])

    def test_a_carry_that_runs_on(self):
        for prime in PRIMES:
            power = prime ** 3
            self.assertEqual(ask_to(prime, ("without", power, 1), ("without", power, power - 1)),
                             [[power - 1, 3], [1, 3]])
        self.assertEqual(ask_to(2, ("without", 524288, 1)), [[524287, 19]])

    def test_all_one_less_than_the_prime_carries_nothing(self):
        for prime in PRIMES:
            full = prime ** 3 - 1
            for less in (1, prime, prime * prime - 1, full - 1):
                self.assertEqual(ask_to(prime, ("without", full, less)), [[full - less, 0]])

    def test_a_million(self):
        self.assertEqual(ask_to(2, ("without", MILLION, 500000), ("without", MILLION, 1)), [[500000, 7], [999999, 6]])
        self.assertEqual(ask_to(97, ("without", MILLION, 28), ("without", MILLION, 27)), [[999972, 1], [999973, 0]])

    def test_it_is_what_carries_tells_of_what_is_left(self):
        for prime in SOME_PRIMES:
            for number, less in itertools.product(sample_numbers(prime), repeat=2):
                if number >= less:
                    calls = [("without", number, less), ("carries", number - less, less)]
                    both, [carried] = ask_to(prime, *calls)
                    self.assertEqual(both, [number - less, carried], (prime, number, less))

    def test_the_cross_sums_tell_it(self):
        for prime in SOME_PRIMES:
            for number, less in itertools.product(sample_numbers(prime)[::2], repeat=2):
                if number >= less:
                    calls = [("without", number, less), ("cross", number), ("cross", less), ("cross", number - less)]
                    (left, often), [whole], [one], [other] = ask_to(prime, *calls)
                    self.assertEqual(one + other, whole + (prime - 1) * often, (prime, number, less))

    def test_refused_where_the_first_is_less(self):
        pairs = [(0, 1), (4, 5), (6, 7), (0, MILLION), (999999, MILLION), (9, 10)]
        for first, second in pairs:
            for prime in (2, 5, 97):
                given = ask_to(prime, ("without", first, second), ("told",))
                self.assertEqual(given, [[-33], [prime]], (first, second))

    def test_above_a_million_is_refused_first(self):
        for high in (MILLION + 1, 2 * MILLION, HIGHEST):
            for other in (0, 1, MILLION, high):
                given = ask_to(5, ("without", high, other), ("without", other, high), ("told",))
                self.assertEqual(given, [[-22], [-22], [5]], (high, other))
        self.assertEqual(ask_to(5, ("without", MILLION + 1, HIGHEST)), [[-22]])


if __name__ == "__main__":
    unittest.main()
