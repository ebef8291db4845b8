"""How wide and how high things are when they are laid out."""

from foldrows.errors import NoHeight
from foldrows.flat import flat_size
from foldrows.laying import laid


def least_width(thing):
    # No width has more rows than nought has, so this count rules none out.
    return narrowest(thing, height(thing, 0))


def height(thing, width):
    return len(laid(thing, width))


def narrowest(thing, most):
    if most < 1:
        raise NoHeight(f"no thing is laid out on {most} rows")
    # Once a width will do, every greater one will, and that of the flat text does: so the span can be halved.
    low = 0
    high = flat_size(thing)
    while low < high:
        middle = (low + high) // 2
        if will_do(thing, middle, most):
            high = middle
        else:
            low = middle + 1
    return low


def will_do(thing, width, most):
    rows = laid(thing, width)
    return len(rows) <= most and max([len(row) for row in rows]) <= width
