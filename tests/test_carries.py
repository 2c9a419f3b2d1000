"""carries, places and three (promise 3), and what holds of them."""

import itertools
import unittest

from lines import HIGHEST, MILLION, PRIMES, SOME_PRIMES, ask_many, ask_to, sample_numbers
from model import place_list


def some_pairs(prime):
    numbers = sample_numbers(prime)
    return list(itertools.product(numbers, numbers[::2]))


class Carries(unittest.TestCase):

    def test_ordinary_numbers(self):
        self.assertEqual(ask_to(2, ("carries", 1, 1), ("carries", 3, 5), ("carries", 2, 5)), [[1], [3], [0]])
        self.assertEqual(ask_to(3, ("carries", 5, 4), ("carries", 8, 8), ("carries", 4, 4)), [[2], [2], [0]])
        self.assertEqual(ask_to(7, ("carries", 48, 1), ("carries", 20, 9), ("carries", 100, 5)), [[2], [1], [1]])

    def test_0_carries_nothing(self):
        for prime in PRIMES:
            for number in (0, 1, prime - 1, prime, prime * prime - 1, MILLION):
                self.assertEqual(ask_to(prime, ("carries", 0, number), ("carries", number, 0)), [[0], [0]])

    def test_together_the_prime_or_one_less(self):
        for prime in PRIMES:
            calls = [("carries", prime - 1, 1), ("carries", prime - 2, 1), ("carries", prime - 1, prime - 1)]
            self.assertEqual(ask_to(prime, *calls), [[1], [0], [1]])

    def test_a_carry_that_runs_on(self):
        for prime in PRIMES:
            full = prime * prime * prime - 1
            self.assertEqual(ask_to(prime, ("carries", full, 1), ("carries", 1, full), ("carries", full, full)),
                             [[3], [3], [3]])
        self.assertEqual(ask_to(2, ("carries", 524287, 1)), [[19]])

    def test_the_prime_itself(self):
        for prime in PRIMES:
            expected = 1 if prime == 2 else 0
            self.assertEqual(ask_to(prime, ("carries", prime, prime)), [[expected]])
            self.assertEqual(ask_to(prime, ("carries", prime, prime * (prime - 1))), [[1]])

    def test_a_million(self):
        given = [ask_to(prime, ("carries", MILLION, MILLION))[0][0] for prime in (2, 3, 5, 97)]
        self.assertEqual(given, [7, 7, 3, 0])
        self.assertEqual(ask_to(97, ("carries", MILLION, 70), ("carries", MILLION, 69)), [[1], [0]])

    def test_digits_that_differ_in_how_many(self):
        self.assertEqual(ask_to(5, ("carries", 624, 3), ("carries", 3, 624), ("carries", 125, 4)), [[4], [4], [0]])

    def test_it_is_how_many_places_there_are(self):
        for prime in SOME_PRIMES:
            pairs = some_pairs(prime)
            given = ask_many(prime, [("carries", first, second) for first, second in pairs])
            self.assertEqual(given, [[len(place_list(first, second, prime))] for first, second in pairs])

    def test_the_cross_sums_tell_it(self):
        for prime in SOME_PRIMES:
            pairs = [pair for pair in some_pairs(prime) if sum(pair) <= MILLION]
            for first, second in pairs:
                calls = [("cross", first), ("cross", second), ("cross", first + second), ("carries", first, second)]
                [one], [other], [both], [often] = ask_to(prime, *calls)
                self.assertEqual(one + other, both + (prime - 1) * often, (prime, first, second))

    def test_when_1_is_added_as_often_as_the_prime_divides_what_comes_of_it(self):
        for prime in PRIMES:
            for number in sample_numbers(prime)[:-1]:
                carried, divided = ask_to(prime, ("carries", number, 1), ("times", number + 1))
                self.assertEqual(carried, divided, (prime, number))


class Places(unittest.TestCase):

    def test_how_many_then_they_rising(self):
        self.assertEqual(ask_to(2, ("places", 3, 5), ("places", 5, 5), ("places", 2, 5)),
                         [[3, 0, 1, 2], [2, 0, 2], [0]])
        self.assertEqual(ask_to(3, ("places", 5, 4), ("places", 6, 3)), [[2, 0, 1], [1, 1]])
        self.assertEqual(ask_to(7, ("places", 20, 9), ("places", 295, 55)), [[1, 0], [2, 0, 2]])

    def test_none_with_0(self):
        for prime in PRIMES:
            self.assertEqual(ask_to(prime, ("places", 0, 0), ("places", 0, MILLION), ("places", MILLION, 0)), [[0]] * 3)

    def test_a_carry_that_runs_on(self):
        for prime in PRIMES:
            full = prime * prime * prime - 1
            self.assertEqual(ask_to(prime, ("places", full, 1), ("places", 1, full)), [[3, 0, 1, 2]] * 2)
            self.assertEqual(ask_to(prime, ("places", full - (prime - 1), prime)), [[2, 1, 2]])
        self.assertEqual(ask_to(2, ("places", 1, 524287)), [[19] + list(range(19))])

    def test_a_million(self):
        self.assertEqual(ask_to(2, ("places", MILLION, MILLION)), [[7, 6, 9, 14, 16, 17, 18, 19]])
        self.assertEqual(ask_to(5, ("places", MILLION, MILLION)), [[3, 6, 7, 8]])
        self.assertEqual(ask_to(97, ("places", MILLION, MILLION), ("places", MILLION, 70)), [[0], [1, 0]])

    def test_just_where_the_next_power_tells_it(self):
        for prime in SOME_PRIMES:
            pairs = some_pairs(prime)
            given = ask_many(prime, [("places", first, second) for first, second in pairs])
            for (first, second), (many, *places) in zip(pairs, given, strict=True):
                self.assertEqual(places, place_list(first, second, prime), (prime, first, second))
                self.assertEqual(many, len(places))


class Three(unittest.TestCase):

    def test_together_then_the_first_two_then_the_last_two(self):
        self.assertEqual(ask_to(2, ("three", 1, 1, 2), ("three", 1, 2, 2), ("three", 1, 2, 1)),
                         [[2, 1, 0], [1, 0, 1], [2, 0, 0]])
        self.assertEqual(ask_to(3, ("three", 1, 1, 1), ("three", 2, 2, 2), ("three", 8, 1, 0)),
                         [[1, 0, 0], [2, 1, 1], [2, 2, 0]])
        self.assertEqual(ask_to(7, ("three", 48, 0, 1), ("three", 6, 1, 42)), [[2, 0, 0], [2, 1, 0]])

    def test_0(self):
        for prime in PRIMES:
            full = prime * prime - 1
            self.assertEqual(ask_to(prime, ("three", 0, 0, 0), ("three", 0, full, 1), ("three", full, 1, 0)),
                             [[0, 0, 0], [2, 0, 2], [2, 2, 0]])

    def test_three_times_a_million_is_not_refused(self):
        self.assertEqual(ask_to(2, ("three", MILLION, MILLION, MILLION)), [[11, 7, 7]])
        self.assertEqual(ask_to(97, ("three", MILLION, MILLION, MILLION)), [[0, 0, 0]])

    def test_the_first_number_is_told_by_the_cross_sums(self):
        for prime in SOME_PRIMES:
            numbers = [number for number in sample_numbers(prime)[::3] if 3 * number <= MILLION]
            for three in itertools.product(numbers, repeat=3):
                calls = [("cross", number) for number in three] + [("cross", sum(three)), ("three", *three)]
                [one], [two], [other], [whole], (often, *pairs) = ask_to(prime, *calls)
                self.assertEqual(one + two + other, whole + (prime - 1) * often, (prime, three))

    def test_the_others_are_those_of_carries(self):
        for prime in SOME_PRIMES:
            for first, second, third in itertools.product(sample_numbers(prime)[1::4], repeat=3):
                calls = [("three", first, second, third), ("carries", first, second), ("carries", second, third)]
                three, [first_two], [last_two] = ask_to(prime, *calls)
                self.assertEqual(three[1:], [first_two, last_two])

    def test_carried_as_often_in_whatever_order(self):
        for prime in SOME_PRIMES:
            for three in itertools.combinations_with_replacement(sample_numbers(prime)[::3], 3):
                given = ask_to(prime, *[("three", *order) for order in itertools.permutations(three)])
                self.assertEqual(len({row[0] for row in given}), 1, (prime, three))


class Refused(unittest.TestCase):

    def test_above_a_million_at_each_place(self):
        for name, size in (("carries", 2), ("places", 2), ("three", 3)):
            for place in range(size):
                for high in (MILLION + 1, 2 * MILLION, HIGHEST):
                    for else_there in (0, 1, MILLION, HIGHEST):
                        numbers = [else_there] * size
                        numbers[place] = high
                        self.assertEqual(ask_to(3, (name, *numbers), ("cross", 8)), [[-22], [4]], (name, numbers))

    def test_not_at_a_million(self):
        for name, size in (("carries", 2), ("places", 2), ("three", 3)):
            for place in range(size):
                numbers = [0] * size
                numbers[place] = MILLION
                [given] = ask_to(3, (name, *numbers))
                self.assertEqual(given[0], 0, (name, numbers))


if __name__ == "__main__":
    unittest.main()
