"""like and number_of, which the words call from (promise 2)."""

import itertools
import unittest

from carriedover.adding import next_alike
from carriedover.digits import LIKE_WITHIN
from lines import HIGHEST, MILLION, PRIMES, ask_many, ask_to


def crosses_below(end, prime):
    """The cross sums of all numbers below the end: a number's is that of its upper digits and its last one."""
    found = [0]
    for number in range(1, end):
        found.append(found[number // prime] + number % prime)
    return found


class Like(unittest.TestCase):

    def test_the_first_with_the_same_cross_sum(self):
        self.assertEqual(ask_to(2, ("like", 1), ("like", 6), ("like", 7), ("like", 12)), [[2], [9], [11], [17]])
        self.assertEqual(ask_to(3, ("like", 2), ("like", 8), ("like", 18)), [[4], [14], [28]])
        self.assertEqual(ask_to(7, ("like", 48), ("like", 8), ("like", 100)), [[90], [14], [106]])

    def test_1_is_followed_by_the_prime(self):
        for prime in PRIMES:
            self.assertEqual(ask_to(prime, ("like", 1)), [[prime]])

    def test_all_one_less_than_the_prime(self):
        for prime in PRIMES:
            self.assertEqual(ask_to(prime, ("like", prime - 1)), [[2 * prime - 2]])
        for prime in PRIMES[:11]:
            both = prime * prime - 1
            self.assertEqual(ask_to(prime, ("like", both)), [[both + prime * (prime - 1)]])

    def test_the_prime_itself(self):
        for prime in PRIMES:
            expected = prime * prime if prime * prime - prime <= 2000 else -33
            self.assertEqual(ask_to(prime, ("like", prime)), [[expected]], prime)

    def test_0_has_none_to_whatever_prime(self):
        for prime in PRIMES:
            self.assertEqual(ask_to(prime, ("like", 0), ("told",)), [[-33], [prime]])

    def test_none_among_the_next_2000(self):
        # 2024 and 2028 numbers behind these the first one would come.
        self.assertEqual(ask_to(47, ("like", 188), ("like", 47)), [[-33], [-33]])
        self.assertEqual(ask_to(13, ("like", 169), ("like", 168), ("like", 170)), [[-33], [324], [182]])
        self.assertEqual(ask_to(97, ("like", 97), ("like", 970)), [[-33], [-33]])
        self.assertEqual(ask_to(97, ("like", 98), ("like", 96)), [[194], [192]])

    def test_late_among_the_next_2000(self):
        # 1978 and 1976 numbers behind: no number up to 1,000 has its first one later and still in time.
        self.assertEqual(ask_to(47, ("like", 235)), [[2213]])
        self.assertEqual(ask_to(53, ("like", 848)), [[2824]])

    def test_the_last_of_the_next_ones_still_counts(self):
        # No number has its first one just 2,000 behind it, so this is asked of the search itself.
        self.assertEqual(LIKE_WITHIN, 2000)
        self.assertEqual(next_alike(235, 47, 1978), 2213)
        self.assertEqual(next_alike(235, 47, 1977), 0)
        self.assertEqual(next_alike(1, 2, 1), 2)

    def test_every_number_up_to_1000(self):
        for prime in PRIMES:
            crosses = crosses_below(3001, prime)
            given = ask_many(prime, [("like", number) for number in range(1001)])
            for number in range(1001):
                later = range(number + 1, number + 2001)
                first = next((other for other in later if crosses[other] == crosses[number]), -33)
                self.assertEqual(given[number], [first], (prime, number))

    def test_refused_above_1000(self):
        for number in (1001, 1002, 2000, MILLION, MILLION + 1, HIGHEST):
            for prime in (2, 3, 97):
                self.assertEqual(ask_to(prime, ("like", number), ("told",)), [[-22], [prime]], number)

    def test_1001_is_refused_as_too_high_where_there_is_none_too(self):
        self.assertEqual(ask_to(97, ("like", 1067), ("like", 9409)), [[-22], [-22]])

    def test_1000_is_not_refused(self):
        self.assertEqual(ask_to(2, ("like", 1000), ("like", 999)), [[1008], [1003]])
        self.assertEqual(ask_to(97, ("like", 1000), ("like", 999)), [[1096], [1095]])


class NumberOf(unittest.TestCase):

    def test_the_last_digit_comes_first(self):
        self.assertEqual(ask_to(2, ("number_of", 0, 1, 1, 0), ("number_of", 1, 0, 0, 1)), [[6], [9]])
        self.assertEqual(ask_to(3, ("number_of", 2, 0, 2, 1), ("number_of", 0, 1, 0, 0)), [[47], [3]])
        self.assertEqual(ask_to(7, ("number_of", 2, 0, 2, 0), ("number_of", 1, 2, 3, 4)), [[100], [1534]])

    def test_each_place_is_a_power_of_the_prime(self):
        for prime in PRIMES:
            calls = [("number_of", 1, 0, 0, 0), ("number_of", 0, 1, 0, 0), ("number_of", 0, 0, 1, 0),
                     ("number_of", 0, 0, 0, 1), ("number_of", 0, 0, 0, 0)]
            self.assertEqual(ask_to(prime, *calls), [[1], [prime], [prime ** 2], [prime ** 3], [0]])

    def test_all_one_less_than_the_prime(self):
        for prime in PRIMES:
            self.assertEqual(ask_to(prime, ("number_of", *[prime - 1] * 4)), [[prime ** 4 - 1]])

    def test_a_million_and_more_may_come_of_it(self):
        given = ask_to(97, ("number_of", 27, 27, 9, 1), ("number_of", 28, 27, 9, 1), ("number_of", 96, 96, 96, 96))
        self.assertEqual(given, [[MILLION], [MILLION + 1], [88529280]])

    def test_the_digits_of_what_comes_of_it_are_these(self):
        for prime in (2, 3, 5, 31):
            some = sorted({0, 1, prime // 2, prime - 1})
            fours = list(itertools.product(some, repeat=4))
            numbers = [given[0] for given in ask_many(prime, [("number_of", *four) for four in fours])]
            digits = ask_many(prime, [("digits", number) for number in numbers])
            for four, (many, *found) in zip(fours, digits, strict=True):
                self.assertEqual(found + [0] * (4 - many), list(four), (prime, four))

    def test_refused_at_each_place(self):
        for prime in PRIMES:
            for place in range(4):
                for high in (prime, prime + 1, MILLION, MILLION + 1, HIGHEST):
                    for else_there in (0, prime - 1, high):
                        four = [else_there] * 4
                        four[place] = high
                        given = ask_to(prime, ("number_of", *four), ("told",))
                        self.assertEqual(given, [[-22], [prime]], (prime, four))

    def test_it_goes_by_the_prime_that_is_told_now(self):
        given = ask_to(3, ("number_of", 2, 2, 0, 0), ("prime", 2), ("number_of", 2, 2, 0, 0), ("begin", 97),
                       ("number_of", 2, 2, 0, 0), ("number_of", 96, 0, 0, 0))
        self.assertEqual(given, [[8], [3], [-22], [97], [196], [96]])


if __name__ == "__main__":
    unittest.main()
