"""begin, prime and told (promise 1), and what is refused ahead of a begin."""

import unittest

from lines import HIGHEST, MILLION, PRIMES, ask, ask_to

NO_PRIMES = [0, 1, 4, 6, 9, 25, 49, 77, 87, 91, 93, 95, 98, 99, 100, 101, 103, 9409, MILLION, 1000003, HIGHEST]

ALL_BUT_BEGIN = [
    ("prime", 3), ("digits", 3), ("cross", 3), ("carries", 3, 3), ("places", 3, 3), ("three", 3, 3, 3), ("times", 3),
    ("next", 3), ("ways", 3, 1), ("most", 3), ("like", 3), ("number_of", 1, 0, 1, 0), ("without", 3, 2), ("told",),
]

REFUSED_ANYHOW = [
    ("prime", 4), ("prime", HIGHEST), ("digits", HIGHEST), ("cross", 1000001), ("carries", HIGHEST, HIGHEST),
    ("places", 1000001, 0), ("three", 0, 0, HIGHEST), ("times", 0), ("times", HIGHEST),
    ("next", MILLION), ("ways", 61, 0), ("most", 61), ("like", 1001), ("like", 0), ("number_of", 0, 97, 0, 0),
    ("without", MILLION + 1, 0), ("without", 1, 2),
]


class Begin(unittest.TestCase):

    def test_answers_the_prime(self):
        for prime in PRIMES:
            self.assertEqual(ask(("begin", prime)), [[prime]])

    def test_all_below_200_and_more_are_refused_but_the_primes_below_100(self):
        for number in list(range(200)) + NO_PRIMES:
            expected = [number] if number in PRIMES else [-22]
            self.assertEqual(ask(("begin", number)), [expected], number)

    def test_is_the_prime_from_now_on(self):
        for prime in PRIMES:
            self.assertEqual(ask_to(prime, ("digits", prime), ("digits", prime - 1)), [[2, 0, 1], [1, prime - 1]])

    def test_may_come_again(self):
        given = ask(("begin", 2), ("cross", 7), ("begin", 7), ("cross", 7), ("begin", 2), ("cross", 7))
        self.assertEqual(given, [[2], [3], [7], [1], [2], [3]])

    def test_a_refused_one_leaves_the_prime(self):
        for number in NO_PRIMES:
            given = ask(("begin", 5), ("begin", number), ("digits", 13), ("prime", 7))
            self.assertEqual(given, [[5], [-22], [2, 3, 2], [5]], number)


class Prime(unittest.TestCase):

    def test_answers_what_it_was(self):
        given = ask(("begin", 2), ("prime", 3), ("prime", 97), ("prime", 97), ("begin", 5), ("prime", 2))
        self.assertEqual(given, [[2], [2], [3], [97], [5], [5]])

    def test_is_the_prime_from_now_on(self):
        for prime in PRIMES:
            given = ask_to(2, ("prime", prime), ("digits", prime), ("digits", prime - 1), ("carries", prime - 1, 1))
            self.assertEqual(given, [[2], [2, 0, 1], [1, prime - 1], [1]])

    def test_all_below_200_and_more_are_refused_but_the_primes_below_100(self):
        for number in list(range(200)) + NO_PRIMES:
            expected = [11] if number in PRIMES else [-22]
            self.assertEqual(ask_to(11, ("prime", number)), [expected], number)

    def test_a_refused_one_leaves_the_prime(self):
        for number in NO_PRIMES:
            given = ask_to(5, ("prime", number), ("digits", 13), ("prime", 7), ("prime", number), ("prime", 2))
            self.assertEqual(given, [[-22], [2, 3, 2], [5], [-22], [7]], number)


class Told(unittest.TestCase):

    def test_is_the_prime_of_the_begin(self):
        for prime in PRIMES:
            self.assertEqual(ask_to(prime, ("told",)), [[prime]])

    def test_is_what_prime_or_a_begin_has_made_it(self):
        given = ask_to(2, ("prime", 97), ("told",), ("told",), ("begin", 5), ("told",), ("prime", 3), ("told",))
        self.assertEqual(given, [[2], [97], [97], [5], [5], [5], [3]])

    def test_no_refusal_changes_it(self):
        for number in NO_PRIMES:
            given = ask_to(7, ("begin", number), ("told",), ("prime", number), ("told",))
            self.assertEqual(given, [[-22], [7], [-22], [7]], number)
        for call in REFUSED_ANYHOW:
            [refused], told = ask_to(89, call, ("told",))
            self.assertIn(refused, (-22, -33), call)
            self.assertEqual(told, [89], call)

    def test_no_other_call_changes_it(self):
        for call in ALL_BUT_BEGIN[1:]:
            given = ask_to(5, call, ("told",))
            self.assertGreaterEqual(given[0][0], 0, call)
            self.assertEqual(given[1], [5], call)


class AheadOfBegin(unittest.TestCase):

    def test_all_else_is_refused(self):
        for call in ALL_BUT_BEGIN:
            self.assertEqual(ask(call), [[-11]], call)

    def test_this_refusal_is_the_first(self):
        for call in REFUSED_ANYHOW:
            self.assertEqual(ask(call), [[-11]], call)

    def test_behind_a_refused_begin_too(self):
        for number in NO_PRIMES:
            for call in ALL_BUT_BEGIN + REFUSED_ANYHOW:
                self.assertEqual(ask(("begin", number), call), [[-22], [-11]], (number, call))

    def test_a_refused_prime_is_no_begin(self):
        given = ask(("prime", 3), ("cross", 3), ("begin", 5), ("cross", 3), ("prime", 3))
        self.assertEqual(given, [[-11], [-11], [5], [3], [5]])

    def test_a_refused_begin_behind_a_good_one_refuses_nothing_else(self):
        self.assertEqual(ask(("begin", 3), ("begin", 4), ("cross", 5)), [[3], [-22], [3]])


if __name__ == "__main__":
    unittest.main()
