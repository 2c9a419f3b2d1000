"""What the tests share: a line made of calls, its answers call by call, and plain facts about numbers."""

from carriedover.digits import answers

NUMBER_OF_CALL = {
    "begin": 0, "prime": 1, "digits": 2, "cross": 3,
    "carries": 4, "places": 5, "three": 6, "times": 7,
    "next": 8, "ways": 9, "most": 10, "like": 11,
    "number_of": 12, "without": 13, "told": 14,
}

PRIMES = [2, 3, 5, 7, 11, 13, 17, 19, 23, 29, 31, 37, 41, 43, 47, 53, 59, 61, 67, 71, 73, 79, 83, 89, 97]
SOME_PRIMES = [2, 3, 5, 7, 31, 97]

MILLION = 1000000
HIGHEST = 4294967295


def line(*calls):
    """The list for calls such as ("begin", 5), ("carries", 3, 4)."""
    numbers = []
    for name, *arguments in calls:
        numbers.append(NUMBER_OF_CALL[name])
        numbers.extend(arguments)
    return numbers


def split(given):
    """The answers, one list a call; fails where the counts don't fit the whole."""
    parts = []
    at = 0
    while at < len(given):
        size = given[at]
        if size < 1 or at + 1 + size > len(given):
            raise AssertionError(f"the counts don't fit: {given}")
        parts.append(given[at + 1:at + 1 + size])
        at += 1 + size
    return parts


def ask(*calls):
    """The answers to the calls of one line, one list a call."""
    parts = split(answers(line(*calls)))
    if len(parts) != len(calls):
        raise AssertionError(f"{len(calls)} calls, {len(parts)} answers: {parts}")
    return parts


def ask_to(prime, *calls):
    """Likewise, behind a begin with this prime, whose answer is left out."""
    return ask(("begin", prime), *calls)[1:]


def ask_many(prime, calls):
    """Likewise for however many calls: a line holds 80 at most."""
    parts = []
    for start in range(0, len(calls), 79):
        parts.extend(ask_to(prime, *calls[start:start + 79]))
    return parts


def sample_numbers(prime):
    """Numbers around the powers of a prime, the corners, and some in between."""
    found = {0, 1, 2, 10, 99, 1000, 123456, 500000, 654321, 999999, MILLION}
    power = prime
    while power <= MILLION:
        found.update([power - 1, power, power + 1, power * (prime - 1)])
        power *= prime
    return sorted(number for number in found if number <= MILLION)
