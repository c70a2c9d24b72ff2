"""Of which kind any object is."""


def is_integer(thing):
    """Whether a thing is an int that is not a bool."""
    return isinstance(thing, int) and thing is not True and thing is not False


def is_number(thing):
    """Whether a thing is an integer from 0 on."""
    return is_integer(thing) and thing >= 0


def is_count(thing):
    """Whether a thing is an integer from 1 on."""
    return is_integer(thing) and thing >= 1


def is_index(thing, many):
    """Whether a thing is an index of a list of so many things."""
    return is_number(thing) and thing < many


def is_list(thing):
    """Whether a thing is a list, or a tuple, which means the same."""
    return isinstance(thing, (list, tuple))


def is_pair(thing):
    """Whether a thing is a list of two things."""
    return is_list(thing) and len(thing) == 2


def is_fraction(thing):
    """Whether a thing is a fraction, in lowest terms or not."""
    if not isinstance(thing, (list, tuple)) or len(thing) != 2:
        return False
    top, bottom = thing
    # Asked of very many things, so all is looked at here and not by the functions above.
    return (isinstance(top, int) and isinstance(bottom, int) and bottom >= 1
            and bottom is not True and top is not True and top is not False)


def is_moment(thing):
    """Whether a thing is a fraction from 0 on: a moment, a rate, a heap."""
    return is_fraction(thing) and thing[0] >= 0
