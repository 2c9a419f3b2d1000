"""begin and prime (promise 1), and what is refused ahead of a begin."""

import unittest

from lines import HIGHEST, MILLION, PRIMES, ask, ask_to

NO_PRIMES = [0, 1, 4, 6, 9, 25, 49, 77, 87, 91, 93, 95, 98, 99, 100, 101, 103, 9409, MILLION, 1000003, HIGHEST]

ALL_BUT_BEGIN = [
    ("prime", 3), ("digits", 3), ("cross", 3), ("carries", 3, 3), ("places", 3, 3), ("three", 3, 3, 3), ("times", 3),
]

REFUSED_ANYHOW = [
    ("prime", 4), ("prime", HIGHEST), ("digits", HIGHEST), ("cross", 1000001), ("carries", HIGHEST, HIGHEST),
    ("places", 1000001, 0), ("three", 0, 0, HIGHEST), ("times", 0), ("times", HIGHEST),
]


class Begin(unittest.TestCase):

    def test_answers_the_prime(self):
        for prime in PRIMES:
            self.assertEqual(ask(("begin", prime)), [[prime]])

    def test_all_below_200_and_more_are_refused_but_the_primes_below_100(self):
        for number in list(range(200)) + NO_PRIMES:
            expected = [number] if number in PRIMES else [-22]
            self.assertEqual(ask(("begin", number)), [expected], number)

    def test_is_the_prime_from_now_on(self):
        for prime in PRIMES:
            self.assertEqual(ask_to(prime, ("digits", prime), ("digits", prime - 1)), [[2, 0, 1], [1, prime - 1]])

    def test_may_come_again(self):
        given = ask(("begin", 2), ("cross", 7), ("begin", 7), ("cross", 7), ("begin", 2), ("cross", 7))
        self.assertEqual(given, [[2], [3], [7], [1], [2], [3]])

    def test_a_refused_one_leaves_the_prime(self):
        for number in NO_PRIMES:
            given = ask(("begin", 5), ("begin", number), ("digits", 13), ("prime", 7))
            self.assertEqual(given, [[5], [-22], [2, 3, 2], [5]], number)


class Prime(unittest.TestCase):

    def test_answers_what_it_was(self):
        given = ask(("begin", 2), ("prime", 3), ("prime", 97), ("prime", 97), ("begin", 5), ("prime", 2))
        self.assertEqual(given, [[2], [2], [3], [97], [5], [5]])

    def test_is_the_prime_from_now_on(self):
        for prime in PRIMES:
            given = ask_to(2, ("prime", prime), ("digits", prime), ("digits", prime - 1), ("carries", prime - 1, 1))
            self.assertEqual(given, [[2], [2, 0, 1], [1, prime - 1], [1]])

    def test_all_below_200_and_more_are_refused_but_the_primes_below_100(self):
        for number in list(range(200)) + NO_PRIMES:
            expected = [11] if number in PRIMES else [-22]
            self.assertEqual(ask_to(11, ("prime", number)), [expected], number)

    def test_a_refused_one_leaves_the_prime(self):
        for number in NO_PRIMES:
            given = ask_to(5, ("prime", number), ("digits", 13), ("prime", 7), ("prime", number), ("prime", 2))
            self.assertEqual(given, [[-22], [2, 3, 2], [5], [-22], [7]], number)


class AheadOfBegin(unittest.TestCase):

    def test_all_else_is_refused(self):
        for call in ALL_BUT_BEGIN:
            self.assertEqual(ask(call), [[-11]], call)

    def test_this_refusal_is_the_first(self):
        for call in REFUSED_ANYHOW:
            self.assertEqual(ask(call), [[-11]], call)

    def test_behind_a_refused_begin_too(self):
        for number in NO_PRIMES:
            for call in ALL_BUT_BEGIN + REFUSED_ANYHOW:
                self.assertEqual(ask(("begin", number), call), [[-22], [-11]], (number, call))

    def test_a_refused_prime_is_no_begin(self):
        given = ask(("prime", 3), ("cross", 3), ("begin", 5), ("cross", 3), ("prime", 3))
        self.assertEqual(given, [[-11], [-11], [5], [3], [5]])

    def test_a_refused_begin_behind_a_good_one_refuses_nothing_else(self):
        self.assertEqual(ask(("begin", 3), ("begin", 4), ("cross", 5)), [[3], [-22], [3]])


if __name__ == "__main__":
    unittest.main()
