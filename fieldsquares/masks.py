"""Which fields each mask turns."""


def turns(m, x, y):
    if m == 0:
        return (x + y) % 2 == 0
    if m == 1:
        return y % 2 == 0
    if m == 2:
        return x % 3 == 0
    if m == 3:
        return (x + y) % 3 == 0
    if m == 4:
        return (x // 3 + y // 2) % 2 == 0
    if m == 5:
        return x * y % 2 + x * y % 3 == 0
    if m == 6:
        return (x * y % 2 + x * y % 3) % 2 == 0
    return ((x + y) % 2 + x * y % 3) % 2 == 0
