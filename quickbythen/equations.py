"""Equations, as many as unknowns, of which there is just one solution."""

from quickbythen.exact import ZERO, minus, over, times


def solved(rows, many):
    """The rows of what stands on the right, by unknowns, of rows of so many factors and of the right sides."""
    left = [list(row) for row in rows]
    for at in range(many):
        usable = [index for index in range(at, many) if left[index][at] != ZERO]
        left[at], left[usable[0]] = left[usable[0]], left[at]
        head = left[at][at]
        left[at] = [over(part, head) if part != ZERO else ZERO for part in left[at]]
        for index in range(many):
            factor = left[index][at]
            if index != at and factor != ZERO:
                left[index] = without(left[index], left[at], factor)
    return [row[many:] for row in left]


def without(row, other, factor):
    """A row less a factor times another one."""
    return [part if less == ZERO else minus(part, times(less, factor)) for part, less in zip(row, other)]
