"""Equations of integers, as many as unknowns, of which there is just one solution."""


def solved(rows, many):
    """The bottom, above 0, and the rows of the tops of what stands on the right, by unknowns.

    Rows are of so many factors and of the right sides, all integers; they are not kept.
    """
    ahead = 1
    for at in range(many):
        usable = at
        while rows[usable][at] == 0:
            usable += 1
        rows[at], rows[usable] = rows[usable], rows[at]
        pivot = rows[at]
        head = pivot[at]
        for index in range(many):
            if index != at:
                row = rows[index]
                factor = row[at]
                # What stood ahead divides all of this: so no integers grow more than they must.
                rows[index] = [(head * part - factor * less) // ahead for part, less in zip(row, pivot)]
        ahead = head
    sign = 1 if ahead > 0 else -1
    return (sign * ahead, [[sign * part for part in row[many:]] for row in rows])
