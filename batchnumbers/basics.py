"""What several modules need: kinds of values, and a little about divisors."""

from math import gcd

from batchnumbers.errors import InvalidQuestion


def is_integer(value):
    """Whether a value is an integer."""
    # Python holds True and False to be integers, the document does not.
    return isinstance(value, int) and not isinstance(value, bool)


def is_below(value, bound):
    """Whether a value is a number below the bound."""
    return is_integer(value) and 0 <= value < bound


def is_sequence(value):
    """Whether a value is a list or a tuple."""
    return isinstance(value, (list, tuple))


def is_tuple_of(value, many):
    """Whether a value is a tuple of so many things."""
    return isinstance(value, tuple) and len(value) == many


def is_ascending(values):
    """Whether each of the values is less than the next one."""
    return all([values[at] < values[at + 1] for at in range(len(values) - 1)])


def check_integer(value, at):
    """Refuses what is no integer, an argument with this index."""
    if not is_integer(value):
        raise InvalidQuestion(at)


def check_integers(value, at):
    """Refuses what is no sequence of integers, an argument with this index."""
    if not is_sequence(value) or not all([is_integer(entry) for entry in value]):
        raise InvalidQuestion(at)


def read_number(word, figures):
    """The number that a word stands for, -1 if it is none without leading zeros in at most so many figures."""
    # Other signs than 0 to 9 count as digits, too, unless they are barred first.
    if len(word) > figures or not word.isascii() or not word.isdigit():
        return -1
    if len(word) > 1 and word[0] == "0":
        return -1
    return int(word)


def product_of(numbers):
    """The product of the numbers, 1 if there are none."""
    whole = 1
    for number in numbers:
        whole *= number
    return whole


def inverse(number, modulus):
    """The number below the modulus whose product with the number leaves 1, the two having no common divisor."""
    one, other = modulus, number % modulus
    low, high = 0, 1
    while other:
        times = one // other
        one, other = other, one - times * other
        low, high = high, low - times * high
    return low % modulus


def number_leaving(ones, zeros):
    """The least number that leaves 1 by the first and 0 by the second, the two having no common divisor."""
    return zeros * inverse(zeros, ones)


def prime_powers(number):
    """The pairs (prime, its greatest power that divides the number), ascending; for small numbers."""
    found = []
    prime = 2
    while number > 1:
        if prime * prime > number:
            prime = number
        power = 1
        while number % prime == 0:
            number //= prime
            power *= prime
        if power > 1:
            found.append((prime, power))
        prime += 1
    return found


def least_divisor(number, is_good):
    """The least good divisor of a good number, where just the multiples of one integer are good."""
    least = number
    for prime, _ in prime_powers(number):
        while least % prime == 0 and is_good(least // prime):
            least //= prime
    return least


def shared_part(number, other):
    """The greatest divisor of the number, from 1 on, that has no primes as divisors but those of the other."""
    part = 1
    common = gcd(number, other)
    while common > 1:
        part *= common
        number //= common
        common = gcd(number, common)
    return part
