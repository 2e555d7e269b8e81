"""Mends rows of bytes, with wrong and with lost ones among them, to words that check.

A byte's root is the power of 2 by which it counts in the row's value at 2. A locator is a polynomial, the lowest power
first, that is 0 just where the inverse of a wrong or lost byte's root is.
"""

from fieldsquares.eightbits import row_value, row_values, with_factor


def are_lost_places(numbers, length):
    """Whether these are places of a row of that length, rising: each below the next, the last below the length."""
    return all([a < b for a, b in zip(numbers, numbers[1:] + [length])])


def poly_value(products, poly, x):
    return row_value(products, poly[::-1], x)


def poly_sum(one, other):
    length = max(len(one), len(other))
    padded = one + [0] * (length - len(one))
    return [a ^ b for a, b in zip(padded, other + [0] * (length - len(other)))]


def folded(products, locator, values, k):
    """The coefficient of the k-th power in the product of locator and values."""
    total = 0
    for i in range(min(len(locator), k + 1)):
        total = total ^ products.times(locator[i], values[k - i])
    return total


def locator_of(products, values, lost_roots):
    """The shortest locator of the lost bytes and of as few wrong ones as make these values.

    Value by value, a locator that does for the values so far is changed by an earlier one that didn't do for
    the value behind it, such that it does for the next value too. Its highest coefficient may become 0: then it has
    fewer zeros than its length says, and there is no near word.
    """
    locator = [1]
    for root in lost_roots:
        locator = with_factor(products, locator, root)
    earlier = locator
    for k in range(len(lost_roots), len(values)):
        off = folded(products, locator, values, k)
        earlier = [0] + earlier
        if off != 0:
            changed = poly_sum(locator, products.all_times(off, earlier))
            if len(changed) > len(locator):
                earlier = products.all_times(products.inverse(off), locator)
            locator = changed
    return locator


def mended_by(products, row, values, locator, places):
    """The row with its bytes at the places changed so that they explain the values."""
    product = [folded(products, locator, values, k) for k in range(len(values))]
    # Its slope: where twos add up to 0, the terms of even powers leave nothing.
    slope = [c if i % 2 == 0 else 0 for i, c in enumerate(locator[1:])]
    word = list(row)
    for place in places:
        exponent = len(row) - 1 - place
        at = products.power(-exponent)
        over = products.times(products.power(exponent), poly_value(products, product, at))
        off = products.times(over, products.inverse(poly_value(products, slope, at)))
        word[place] = word[place] ^ off
    return word


def differing(row, word, lost):
    """How many bytes that aren't lost are others in the word."""
    return len([i for i in range(len(row)) if row[i] != word[i] and i not in lost])


def mended(products, e, row, lost):
    """The word that the row with these lost places is mended to, None if there is none near enough."""
    if len(lost) > e:
        return None
    values = row_values(products, e, row)
    if not any(values):
        return list(row)
    locator = locator_of(products, values, [products.power(len(row) - 1 - place) for place in lost])
    places = [i for i in range(len(row)) if poly_value(products, locator, products.power(i + 1 - len(row))) == 0]
    if len(places) != len(locator) - 1:
        return None
    word = mended_by(products, row, values, locator, places)
    # Values that no near word explains may still have led here, so the promise itself is asked.
    if any(row_values(products, e, word)) or 2 * differing(row, word, lost) + len(lost) > e:
        return None
    return word
