"""Rows of numbers that rise."""


def best_row(numbers):
    """Returns the best rising row of a list of different numbers."""
    lengths = lengths_from(numbers)
    row = []
    missing = max(lengths, default=0)
    # The first number from which a row of the missing length goes on; there is no longer one behind the row so far.
    for number, length in zip(numbers, lengths):
        if length == missing and (not row or number > row[-1]):
            row.append(number)
            missing -= 1
    return row


def lengths_from(numbers):
    """Returns for each number of a list the length of the longest rising row that begins with it."""
    lengths = []
    # The greatest first number of a rising row of each length, from 1 on, behind the present place: they descend.
    firsts = []
    for number in reversed(numbers):
        length = count_above(firsts, number)
        firsts[length:length + 1] = [number]
        lengths.append(length + 1)
    return lengths[::-1]


def count_above(firsts, number):
    """Returns how many numbers of a descending list are greater than a number."""
    low = 0
    high = len(firsts)
    while low < high:
        middle = (low + high) // 2
        if firsts[middle] > number:
            low = middle + 1
        else:
            high = middle
    return low
