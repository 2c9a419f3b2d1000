"""The calls on one object, one behind another in a list, and what they answer."""

from carriedover.adding import carried_places, count_carries, count_divisions
from carriedover.adding import cross_sum, digits_of, is_prime_below_100

BEGIN = 0
PRIME = 1
DIGITS = 2
CROSS = 3
CARRIES = 4
PLACES = 5
THREE = 6
TIMES = 7

# How many whole numbers stand behind each call's own number.
SIZES = (1, 1, 1, 1, 2, 2, 3, 1)

HIGHEST = 1000000


class Adder:
    def __init__(self):
        # 0 is no prime, so it can stand for a begin that is yet to come.
        self.prime = 0

    def answer(self, call, numbers):
        if self.prime == 0 and call != BEGIN:
            return [-11]
        if is_refused(call, numbers):
            return [-22]
        if call == BEGIN:
            return self.begin(numbers[0])
        if call == PRIME:
            return self.change_prime(numbers[0])
        return computed(call, numbers, self.prime)

    def begin(self, prime):
        self.prime = prime
        return [prime]

    def change_prime(self, prime):
        before = self.prime
        self.prime = prime
        return [before]


def is_refused(call, numbers):
    if call == BEGIN or call == PRIME:
        return not is_prime_below_100(numbers[0])
    if call == TIMES and numbers[0] == 0:
        return True
    return max(numbers) > HIGHEST


# These calls only read the prime, so they need no object.
def computed(call, numbers, prime):
    if call == DIGITS:
        return with_count(digits_of(numbers[0], prime))
    if call == CROSS:
        return [cross_sum(numbers[0], prime)]
    if call == CARRIES:
        return [count_carries(numbers[0], numbers[1], prime)]
    if call == PLACES:
        return with_count(carried_places(numbers[0], numbers[1], prime))
    if call == THREE:
        return three_added(numbers[0], numbers[1], numbers[2], prime)
    return [count_divisions(numbers[0], prime)]


def with_count(numbers):
    return [len(numbers)] + numbers


def three_added(first, second, third, prime):
    first_two = count_carries(first, second, prime)
    last_two = count_carries(second, third, prime)
    behind = count_carries(first + second, third, prime)
    return [first_two + behind, first_two, last_two]


def answers(calls):
    adder = Adder()
    given = []
    at = 0
    while at < len(calls):
        call = calls[at]
        end = at + 1 + SIZES[call]
        answered = adder.answer(call, calls[at + 1:end])
        given.append(len(answered))
        given.extend(answered)
        at = end
    return given
