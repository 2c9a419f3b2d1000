"""Numbers written by digits to a prime, and where it's carried when two are added."""


def is_prime_below_100(number):
    if number < 2 or number > 99:
        return False
    for divisor in range(2, number):
        if number % divisor == 0:
            return False
    return True


# The last digit stands first.
def digits_of(number, prime):
    found = []
    rest = number
    while rest > 0:
        found.append(rest % prime)
        rest = rest // prime
    return found


def cross_sum(number, prime):
    return sum(digits_of(number, prime))


def carried_places(first, second, prime):
    found = []
    place = 0
    carried = 0
    rest = first
    other = second
    # Behind the digits of both only a carry is left: 1 is below every prime, so nothing is carried there.
    while rest > 0 or other > 0:
        together = rest % prime + other % prime + carried
        carried = 0
        if together >= prime:
            carried = 1
            found.append(place)
        rest = rest // prime
        other = other // prime
        place = place + 1
    return found


def count_carries(first, second, prime):
    return len(carried_places(first, second, prime))


# The number is 1 at least: 0 could be divided without end.
def count_divisions(number, prime):
    often = 0
    rest = number
    while rest % prime == 0:
        rest = rest // prime
        often = often + 1
    return often
