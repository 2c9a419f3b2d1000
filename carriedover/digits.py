"""The calls on one object, one behind another in a list, and what they answer."""

from carriedover.adding import carried_places, carries_of_parts, count_carries, count_divisions, cross_sum
from carriedover.adding import digits_of, is_prime_below_100, next_alike, number_from

BEGIN = 0
PRIME = 1
DIGITS = 2
CROSS = 3
CARRIES = 4
PLACES = 5
THREE = 6
TIMES = 7
NEXT = 8
WAYS = 9
MOST = 10
LIKE = 11
NUMBER_OF = 12
WITHOUT = 13
TOLD = 14

# How many whole numbers stand behind each call's own number.
SIZES = (1, 1, 1, 1, 2, 2, 3, 1, 1, 2, 1, 1, 4, 2, 0)

HIGHEST = 1000000
HIGHEST_IN_PARTS = 60
HIGHEST_LIKE = 1000
LIKE_WITHIN = 2000


class Adder:
    def __init__(self):
        # 0 is no prime, so it can stand for a begin that is yet to come.
        self.prime = 0

    def answer(self, call, numbers):
        if self.prime == 0 and call != BEGIN:
            return [-11]
        if is_refused(call, numbers, self.prime):
            return [-22]
        if call == BEGIN:
            return self.begin(numbers[0])
        if call == PRIME:
            return self.change_prime(numbers[0])
        if call == TOLD:
            return [self.prime]
        return computed(call, numbers, self.prime)

    def begin(self, prime):
        self.prime = prime
        return [prime]

    def change_prime(self, prime):
        before = self.prime
        self.prime = prime
        return [before]


def is_refused(call, numbers, prime):
    if call == BEGIN or call == PRIME:
        return not is_prime_below_100(numbers[0])
    if call == TIMES and numbers[0] == 0:
        return True
    # How often it is to be carried may be any number.
    bounded = numbers[:1] if call == WAYS else numbers
    return max(bounded, default=0) > highest_allowed(call, prime)


def highest_allowed(call, prime):
    if call == NEXT:
        return HIGHEST - 1
    if call == WAYS or call == MOST:
        return HIGHEST_IN_PARTS
    if call == LIKE:
        return HIGHEST_LIKE
    if call == NUMBER_OF:
        return prime - 1
    return HIGHEST


# These calls, of which the last is WITHOUT, only read the prime, so they need no object.
def computed(call, numbers, prime):
    if call == DIGITS:
        return with_count(digits_of(numbers[0], prime))
    if call == CROSS:
        return [cross_sum(numbers[0], prime)]
    if call == CARRIES:
        return [count_carries(numbers[0], numbers[1], prime)]
    if call == PLACES:
        return with_count(carried_places(numbers[0], numbers[1], prime))
    if call == THREE:
        return three_added(numbers[0], numbers[1], numbers[2], prime)
    if call == TIMES:
        return [count_divisions(numbers[0], prime)]
    if call == NEXT:
        return one_added(numbers[0], prime)
    if call == WAYS:
        return with_count(parts_carried(numbers[0], numbers[1], prime))
    if call == MOST:
        return [max(carries_of_parts(numbers[0], prime))]
    if call == LIKE:
        return first_alike(numbers[0], prime)
    if call == NUMBER_OF:
        return [number_from(numbers, prime)]
    return taken_away(numbers[0], numbers[1], prime)


def with_count(numbers):
    return [len(numbers)] + numbers


def three_added(first, second, third, prime):
    first_two = count_carries(first, second, prime)
    last_two = count_carries(second, third, prime)
    behind = count_carries(first + second, third, prime)
    return [first_two + behind, first_two, last_two]


def one_added(number, prime):
    return [cross_sum(number + 1, prime), count_carries(number, 1, prime)]


def parts_carried(number, often, prime):
    return [part for part, carried in enumerate(carries_of_parts(number, prime)) if carried == often]


def first_alike(number, prime):
    found = next_alike(number, prime, LIKE_WITHIN)
    if found == 0:
        return [-33]
    return [found]


def taken_away(number, less, prime):
    if number < less:
        return [-33]
    left = number - less
    return [left, count_carries(left, less, prime)]


def answers(calls):
    adder = Adder()
    given = []
    at = 0
    while at < len(calls):
        call = calls[at]
        end = at + 1 + SIZES[call]
        answered = adder.answer(call, calls[at + 1:end])
        given.append(len(answered))
        given.extend(answered)
        at = end
    return given
