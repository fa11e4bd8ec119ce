"""Quotients of whole numbers, and the divisors they are brought to lowest terms by."""


def greatest_divisor(first, second):
    while second != 0:
        rest = first % second
        first = second
        second = rest
    return first


# The greatest number that divides number, which is above 0, and all of numbers.
def shared_divisor(numbers, number):
    divisor = number
    for other in numbers:
        divisor = greatest_divisor(divisor, abs(other))
    return divisor


def least_multiple(numbers):
    multiple = 1
    for number in numbers:
        multiple = multiple // greatest_divisor(multiple, number) * number
    return multiple


# below is above 0 wherever this is called, so the sign stays with the first number.
def lowest_terms(above, below):
    divisor = greatest_divisor(abs(above), below)
    return [above // divisor, below // divisor]
