"""Numbers: tuples (n, d) of two whole numbers in lowest terms, d at least 1."""

from math import gcd, lcm

from surehedge.errors import BadNumber, BadSize

ZERO = (0, 1)


def is_whole(value):
    """Tells whether the value is a whole number; True and False are none."""
    return isinstance(value, int) and not isinstance(value, bool)


def is_number(value):
    """Tells whether the value, of whatever kind, is a number."""
    if not isinstance(value, tuple) or len(value) != 2:
        return False
    n, d = value
    return is_whole(n) and is_whole(d) and d >= 1 and gcd(n, d) == 1


def is_short(value):
    """Tells whether the value, of whatever kind, is a short number."""
    return is_number(value) and abs(value[0]) < 10 ** 12 and value[1] < 10 ** 12


def check_shorts(values, many):
    """Raises BadSize if there are not so many values, and BadNumber if one of them is not a short number."""
    if len(values) != many:
        raise BadSize()
    for each in values:
        if not is_short(each):
            raise BadNumber()


def number(n, d):
    """Returns the number that n divided by d is; d is not 0."""
    common = gcd(n, d)
    if d < 0:
        common = -common
    return (n // common, d // common)


def compare(a, b):
    """Returns -1, 0 or 1 as a is less than b, equal to it, or greater."""
    left = a[0] * b[1]
    right = b[0] * a[1]
    if left < right:
        return -1
    if left > right:
        return 1
    return 0


def lesser(a, b):
    """Returns the lesser one of a and b."""
    return a if compare(a, b) <= 0 else b


def greater(a, b):
    """Returns the greater one of a and b."""
    return a if compare(a, b) >= 0 else b


def plus(a, b):
    """Returns the sum of a and b."""
    return number(a[0] * b[1] + b[0] * a[1], a[1] * b[1])


def minus(a, b):
    """Returns a less b."""
    return number(a[0] * b[1] - b[0] * a[1], a[1] * b[1])


def times(a, b):
    """Returns the product of a and b."""
    return number(a[0] * b[0], a[1] * b[1])


def divided(a, b):
    """Returns a divided by b; b is not 0."""
    return number(a[0] * b[1], a[1] * b[0])


def negated(a):
    """Returns a with the other sign."""
    return (-a[0], a[1])


def all_negated(numbers):
    """Returns the list of the numbers with the other signs."""
    return [negated(each) for each in numbers]


def total(numbers):
    """Returns the sum of a list of numbers."""
    result = ZERO
    for each in numbers:
        result = plus(result, each)
    return result


def dot(a, b):
    """Returns the sum of the products of two lists of numbers of the same length."""
    result = ZERO
    for left, right in zip(a, b):
        result = plus(result, times(left, right))
    return result


def in_whole(numbers):
    """Returns whole numbers without a common divisor, and the number above 0 by which the numbers become these."""
    common = 1
    for each in numbers:
        common = lcm(common, each[1])
    wholes = [n * (common // d) for n, d in numbers]
    divisor = 0
    for each in wholes:
        divisor = gcd(divisor, each)
    if divisor == 0:
        return (wholes, (1, 1))
    return ([each // divisor for each in wholes], number(common, divisor))
