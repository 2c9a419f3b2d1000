"""ways and most (promise 4)."""

import math
import unittest

from lines import HIGHEST, MILLION, PRIMES, ask_many, ask_to
from model import often_divided


def carried_by_choices(whole, prime):
    """For each part of the whole how often it's carried: as often as the prime divides the number of choices."""
    return [often_divided(math.comb(whole, part), prime) for part in range(whole + 1)]


class Ways(unittest.TestCase):

    def test_how_many_then_they_rising(self):
        self.assertEqual(ask_to(2, ("ways", 4, 0), ("ways", 4, 1), ("ways", 4, 2), ("ways", 4, 3)),
                         [[2, 0, 4], [1, 2], [2, 1, 3], [0]])
        self.assertEqual(ask_to(3, ("ways", 6, 0), ("ways", 6, 1), ("ways", 6, 2)),
                         [[3, 0, 3, 6], [4, 1, 2, 4, 5], [0]])
        self.assertEqual(ask_to(7, ("ways", 8, 0), ("ways", 8, 1)), [[4, 0, 1, 7, 8], [5, 2, 3, 4, 5, 6]])

    def test_0_and_1(self):
        for prime in PRIMES:
            calls = [("ways", 0, 0), ("ways", 0, 1), ("ways", 1, 0), ("ways", 1, 1)]
            self.assertEqual(ask_to(prime, *calls), [[1, 0], [0], [2, 0, 1], [0]])

    def test_the_prime_itself_and_one_less(self):
        for prime in PRIMES:
            if prime <= 60:
                calls = [("ways", prime, 0), ("ways", prime, 1), ("ways", prime - 1, 0), ("ways", prime - 1, 1)]
                expected = [[2, 0, prime], [prime - 1, *range(1, prime)], [prime, *range(prime)], [0]]
                self.assertEqual(ask_to(prime, *calls), expected)

    def test_60_is_not_refused(self):
        self.assertEqual(ask_to(59, ("ways", 60, 0), ("ways", 60, 1)), [[4, 0, 1, 59, 60], [57, *range(2, 59)]])
        for prime in (61, 67, 97):
            self.assertEqual(ask_to(prime, ("ways", 60, 0), ("ways", 60, 1)), [[61, *range(61)], [0]])

    def test_refused_above_60_whatever_the_second_is(self):
        for number in (61, 62, 97, 1000, MILLION, MILLION + 1, HIGHEST):
            for often in (0, 1, 60, 61, MILLION, MILLION + 1, HIGHEST):
                self.assertEqual(ask_to(5, ("ways", number, often), ("told",)), [[-22], [5]], (number, often))

    def test_the_second_may_be_any(self):
        for often in (60, 61, 1000, 1001, MILLION, MILLION + 1, HIGHEST):
            for number in (0, 1, 59, 60):
                self.assertEqual(ask_to(2, ("ways", number, often)), [[0]], (number, often))

    def test_it_is_as_the_choices_tell(self):
        for prime in PRIMES:
            calls = [("ways", number, often) for number in range(61) for often in range(7)]
            for (_, number, often), (many, *parts) in zip(calls, ask_many(prime, calls), strict=True):
                carried = carried_by_choices(number, prime)
                expected = [part for part in range(number + 1) if carried[part] == often]
                self.assertEqual([many, parts], [len(expected), expected], (prime, number, often))

    def test_it_is_as_carries_tells(self):
        for prime in (2, 3, 5, 59):
            for number in (0, 1, 31, 32, 54, 60):
                carries = ask_many(prime, [("carries", part, number - part) for part in range(number + 1)])
                for often, given in enumerate(ask_to(prime, *[("ways", number, often) for often in range(7)])):
                    parts = [part for part, [carried] in enumerate(carries) if carried == often]
                    self.assertEqual(given[1:], parts, (prime, number, often))


class Most(unittest.TestCase):

    def test_how_often_at_most(self):
        calls = [("most", number) for number in (4, 5, 6, 7, 32, 48, 60)]
        self.assertEqual(ask_to(2, *calls), [[2], [1], [2], [0], [5], [5], [5]])
        self.assertEqual(ask_to(3, ("most", 6), ("most", 9), ("most", 8), ("most", 54)), [[1], [2], [0], [3]])
        self.assertEqual(ask_to(7, ("most", 48), ("most", 49), ("most", 55), ("most", 60)), [[0], [2], [1], [2]])

    def test_0_and_1(self):
        for prime in PRIMES:
            self.assertEqual(ask_to(prime, ("most", 0), ("most", 1)), [[0], [0]])

    def test_the_prime_itself_and_one_less(self):
        for prime in PRIMES:
            expected = [[0], [1]] if prime <= 60 else [[0], [-22]]
            self.assertEqual(ask_to(prime, ("most", min(prime - 1, 60)), ("most", prime)), expected)

    def test_60_is_not_refused(self):
        given = [ask_to(prime, ("most", 60))[0][0] for prime in (2, 3, 5, 7, 59, 61, 97)]
        self.assertEqual(given, [5, 3, 2, 2, 1, 0, 0])

    def test_refused_above_60(self):
        for number in (61, 62, 97, 1000, MILLION, MILLION + 1, HIGHEST):
            for prime in (2, 61, 97):
                self.assertEqual(ask_to(prime, ("most", number), ("told",)), [[-22], [prime]], number)

    def test_it_is_as_the_choices_tell(self):
        for prime in PRIMES:
            given = ask_many(prime, [("most", number) for number in range(61)])
            self.assertEqual(given, [[max(carried_by_choices(number, prime))] for number in range(61)], prime)

    def test_there_are_ways_for_so_many_and_none_for_more(self):
        for prime in (2, 3, 5, 31, 97):
            for number in range(61):
                [[most]] = ask_to(prime, ("most", number))
                here, above = ask_to(prime, ("ways", number, most), ("ways", number, most + 1))
                self.assertGreater(here[0], 0, (prime, number))
                self.assertEqual(above, [0], (prime, number))


if __name__ == "__main__":
    unittest.main()
