"""Sums by two of lots, and what bars a lot from being one.

A lot is told here as a mask: an integer with a bit for each of its numbers.
"""


def sum_of(lots):
    """The lot of all numbers that an odd number of the lots has."""
    odd = {}
    for lot in lots:
        for number in lot:
            odd[number] = not odd.get(number, False)
    return tuple(sorted([number for number in odd if odd[number]]))


def choices_of(many):
    """All ascending tuples of numbers from 0 to many - 1: shorter ones first, the less ones first."""
    found = [()]
    for number in range(many):
        found = found + [choice + (number,) for choice in found]
    return sorted(found, key=lambda choice: (len(choice), choice))


def numbers_in(lots):
    """All numbers of some lots, ascending."""
    found = {}
    for lot in lots:
        for number in lot:
            found[number] = True
    return sorted(found)


def mask_of(lot, places):
    """The mask of a lot, its bits at these places."""
    digits = ["0"] * len(places)
    for number in lot:
        digits[-1 - places[number]] = "1"
    # Read at once, as long masks would be copied for each of their bits.
    return int("0" + "".join(digits), 2)


def bits_of(mask):
    """The places of the bits of a mask, ascending."""
    digits = f"{mask:b}"
    return [at for at, digit in enumerate(digits[::-1]) if digit == "1"]


def left_over(basis, mask, numbers):
    """What is left of a mask when masks of the basis are added, and the numbers added."""
    while mask.bit_length() in basis:
        row, others = basis[mask.bit_length()]
        mask = mask ^ row
        numbers = numbers ^ others
    return mask, numbers


def basis_of(masks):
    """Sums of the masks, none of them a sum of others, by their lengths.

    Each is kept with a mask of the numbers of those masks that it is the sum of.
    """
    basis = {}
    for at, mask in enumerate(masks):
        left, numbers = left_over(basis, mask, 1 << at)
        if left:
            basis[left.bit_length()] = (left, numbers)
    return basis


def sum_numbers(lots, lot):
    """The numbers of lots whose sum by two is this lot, None if there are none."""
    places = {number: at for at, number in enumerate(numbers_in([*lots, lot]))}
    basis = basis_of([mask_of(told, places) for told in lots])
    left, numbers = left_over(basis, mask_of(lot, places), 0)
    return None if left else tuple(bits_of(numbers))


def barring(lots, lot):
    """A lot with an even number in common with each lot, an odd one with this lot."""
    marks = numbers_in([*lots, lot])
    places = {number: at for at, number in enumerate(marks)}
    basis = basis_of([mask_of(told, places) for told in lots])
    left, _ = left_over(basis, mask_of(lot, places), 0)
    if not left:
        return None
    # The highest bit of what is left is in no shorter row of the basis. Each
    # longer row is made even by its own highest bit, the shorter ones first.
    found = 1 << (left.bit_length() - 1)
    for length in sorted(basis):
        row, _ = basis[length]
        if len(bits_of(row & found)) & 1:
            found = found | (1 << (length - 1))
    return tuple([marks[at] for at in bits_of(found)])
