"""All fifteen calls in one list, in many orders, with begin again and prime in between."""

import unittest

from carriedover.digits import answers
from lines import HIGHEST, MILLION, NUMBER_OF_CALL, PRIMES, ask, line, split
from model import expected

SIZES = {
    "begin": 1, "prime": 1, "digits": 1, "cross": 1, "carries": 2, "places": 2, "three": 3, "times": 1,
    "next": 1, "ways": 2, "most": 1, "like": 1, "number_of": 4, "without": 2, "told": 0,
}

CORNERS = [
    0, 1, 2, 3, 4, 6, 7, 8, 12, 24, 30, 48, 59, 60, 61, 96, 97, 98, 168, 342, 960, 1000, 1001, 9408, 9409,
    117648, 524287, 524288, 912672, 912673, 999999, MILLION, MILLION + 1, HIGHEST,
]

FEW = {
    "begin": PRIMES + [0, 1, 4, 98, 101], "prime": PRIMES + [0, 9, 99, 100], "like": list(range(0, 1003, 17)),
    "ways": [0, 1, 2, 3, 4, 5, 31, 32, 54, 60], "most": list(range(63)), "number_of": [0, 1, 1, 2, 4, 6],
}


def long_line(number):
    """The number's line of 80 calls: names and numbers are picked by steps, so every time alike."""
    names = sorted(SIZES)
    calls = []
    for at in range(80):
        step = number * 80 + at
        name = names[(at * 7 + number * 4 + step // 15) % 15]
        source = FEW.get(name, CORNERS)
        if step % 11 == 3:
            source = CORNERS
        numbers = [source[(step * 13 + place * (number + 5)) % len(source)] for place in range(SIZES[name])]
        calls.append((name, *numbers))
    return calls


class Whole(unittest.TestCase):

    def check(self, calls):
        # Call by call: to tell two long lists apart as a whole takes unittest minutes.
        for call, part, wanted in zip(calls, ask(*calls), expected(calls), strict=True):
            self.assertEqual(part, wanted, call)

    def test_the_lines_hold_all_calls(self):
        self.assertEqual(sorted(SIZES), sorted(NUMBER_OF_CALL))
        for number in range(100):
            calls = long_line(number)
            self.assertEqual(len(calls), 80)
            self.assertEqual({name for name, *_ in calls}, set(SIZES))

    def test_eighty_calls_are_answered_as_the_model_tells(self):
        for number in range(100):
            self.check(long_line(number))

    def test_every_answer_and_every_refusal_comes_up(self):
        seen = {}
        for number in range(100):
            calls = long_line(number)
            for (name, *_), part in zip(calls, ask(*calls), strict=True):
                seen.setdefault(name, set()).add(min(part[0], 0))
        for name in SIZES:
            refusals = {"begin": {-22}, "told": {-11}, "like": {-11, -22, -33}, "without": {-11, -22, -33}}
            self.assertEqual(seen[name], {0} | refusals.get(name, {-11, -22}), name)

    def test_begin_at_the_head_or_not_at_all(self):
        for number in range(40):
            calls = [("begin", PRIMES[number % 25])] + long_line(number)[1:]
            self.check(calls)
            calls = [call for call in calls if call[0] != "begin"]
            self.assertEqual(ask(*calls), [[-11]] * len(calls), number)

    def test_no_number_behind_a_refusal_and_none_below_0_else(self):
        for number in range(100):
            for part in ask(*long_line(number)):
                if part[0] < 0:
                    self.assertIn(part, ([-11], [-22], [-33]))
                self.assertTrue(all(found >= 0 for found in part[1:]), part)

    def test_the_list_stays_and_is_answered_the_same_again(self):
        for number in range(40):
            calls = line(*long_line(number))
            kept = list(calls)
            first = answers(calls)
            self.assertEqual(calls, kept)
            self.assertTrue(answers(calls) == first, number)
            self.assertEqual(len(split(first)), 80)


if __name__ == "__main__":
    unittest.main()
