"""Numbers written by digits to a prime, and where it's carried when two are added."""


def is_prime_below_100(number):
    if number < 2 or number > 99:
        return False
    for divisor in range(2, number):
        if number % divisor == 0:
            return False
    return True


# The last digit stands first.
def digits_of(number, prime):
    found = []
    rest = number
    while rest > 0:
        found.append(rest % prime)
        rest = rest // prime
    return found


# Here, too, the last digit stands first.
def number_from(digits, prime):
    number = 0
    for digit in reversed(digits):
        number = number * prime + digit
    return number


def cross_sum(number, prime):
    return sum(digits_of(number, prime))


# 0 is behind no number, so it can stand for none.
def next_alike(number, prime, within):
    wanted = cross_sum(number, prime)
    for other in range(number + 1, number + within + 1):
        if cross_sum(other, prime) == wanted:
            return other
    return 0


def carried_places(first, second, prime):
    found = []
    place = 0
    carried = 0
    rest = first
    other = second
    # Behind the digits of both only a carry is left: 1 is below every prime, so nothing is carried there.
    while rest > 0 or other > 0:
        together = rest % prime + other % prime + carried
        carried = 0
        if together >= prime:
            carried = 1
            found.append(place)
        rest = rest // prime
        other = other // prime
        place = place + 1
    return found


def count_carries(first, second, prime):
    return len(carried_places(first, second, prime))


# For each part of the number, from 0 to all of it: how often it's carried when the part and the rest are added.
def carries_of_parts(number, prime):
    return [count_carries(part, number - part, prime) for part in range(number + 1)]


# The number is 1 at least: 0 could be divided without end.
def count_divisions(number, prime):
    often = 0
    rest = number
    while rest % prime == 0:
        rest = rest // prime
        often = often + 1
    return often
