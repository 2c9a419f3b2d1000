"""All fifteen calls once more, by what holds of the prime's powers and the cross sums, not by adding digits."""

from lines import MILLION, PRIMES


def digit_list(number, prime):
    found = []
    while prime ** len(found) <= number:
        found.append(number // prime ** len(found) % prime)
    return found


def cross(number, prime):
    return sum(digit_list(number, prime))


def place_list(first, second, prime):
    """What holds: it's carried where the next power's rests of both are that power, together, or more."""
    powers = [prime ** exponent for exponent in range(1, 25)]
    return [place for place, power in enumerate(powers) if first % power + second % power >= power]


def often(first, second, prime):
    """What holds: the cross sums tell how often it's carried."""
    return (cross(first, prime) + cross(second, prime) - cross(first + second, prime)) // (prime - 1)


def often_divided(number, prime):
    return max(exponent for exponent in range(25) if number % prime ** exponent == 0)


def often_for_three(first, second, third, prime):
    crosses = sum(cross(number, prime) for number in (first, second, third))
    return (crosses - cross(first + second + third, prime)) // (prime - 1)


def bounds(name, prime):
    """What each number of the call may be at most; None for any."""
    told = {
        "next": [MILLION - 1], "ways": [60, None], "most": [60], "like": [1000], "number_of": [prime - 1] * 4,
    }
    return told.get(name, [MILLION] * 4)


def too_high(name, numbers, prime):
    return any(bound is not None and number > bound for number, bound in zip(numbers, bounds(name, prime)))


def first_like(number, prime):
    same = [other for other in range(number + 1, number + 2001) if cross(other, prime) == cross(number, prime)]
    return min(same, default=-33)


def counted(numbers):
    return [len(numbers), *numbers]


ANSWERS = {
    "digits": lambda prime, n: counted(digit_list(n, prime)),
    "cross": lambda prime, n: [cross(n, prime)],
    "carries": lambda prime, a, b: [often(a, b, prime)],
    "places": lambda prime, a, b: counted(place_list(a, b, prime)),
    "three": lambda prime, a, b, c: [often_for_three(a, b, c, prime), often(a, b, prime), often(b, c, prime)],
    "times": lambda prime, n: [-22] if n == 0 else [often_divided(n, prime)],
    "next": lambda prime, n: [cross(n + 1, prime), often_divided(n + 1, prime)],
    "ways": lambda prime, n, c: counted([a for a in range(n + 1) if often(a, n - a, prime) == c]),
    "most": lambda prime, n: [max(often(a, n - a, prime) for a in range(n + 1))],
    "like": lambda prime, n: [first_like(n, prime)],
    "number_of": lambda prime, a, b, c, d: [a + b * prime + c * prime ** 2 + d * prime ** 3],
    "without": lambda prime, a, b: [-33] if a < b else [a - b, often(a - b, b, prime)],
    "told": lambda prime: [prime],
}


def expected(calls):
    """What the calls of one line answer, one list a call."""
    prime = None
    parts = []
    for name, *numbers in calls:
        if prime is None and name != "begin":
            parts.append([-11])
        elif name in ("begin", "prime"):
            if numbers[0] in PRIMES:
                parts.append([numbers[0] if name == "begin" else prime])
                prime = numbers[0]
            else:
                parts.append([-22])
        elif too_high(name, numbers, prime):
            parts.append([-22])
        else:
            parts.append(ANSWERS[name](prime, *numbers))
    return parts
