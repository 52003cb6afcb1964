"""How the figures of a number lie in cells, in either order."""

# The numbers that so many cells can have lie below this.
LIMITS = {1: 10, 2: 100, 4: 10000}


def cells_of(number, size, order):
    """Tell the cells in which a number lies in this order."""
    cells = []
    rest = number
    for _ in range(size):
        cells.append(rest % 10)
        rest = rest // 10
    return cells[::-1] if order == "great" else cells


def number_in(cells, order):
    """Tell the number that these cells are in this order."""
    number = 0
    figures = cells if order == "great" else cells[::-1]
    for figure in figures:
        number = number * 10 + figure
    return number
